"""The questions that can be asked at a branch."""

from worldsalone.errors import BadPaper
from worldsalone.facts import facts_at


def stands(book, name, mode, branch, question):
    """Whether a thing is a question that stands at a branch."""
    return facts_at(book, name, mode, branch).stands(question)


def answers(book, name, mode, branch, question):
    """The list of the answers of a question, in order."""
    facts = facts_at(book, name, mode, branch)
    if not facts.stands(question):
        raise BadPaper()
    return facts.answers(question)


def compared(book, name, mode, branch, term, other):
    """The word "equal" or "unlike" for two terms that may occur at a branch, or None if they are neither."""
    return facts_at(book, name, mode, branch).compared(term, other)
