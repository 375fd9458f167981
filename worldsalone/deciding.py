"""Deciding whether instructions are right, with a paper or a start that shows it."""

from worldsalone.facts import Facts
from worldsalone.papers import due_papers
from worldsalone.showing import start_at
from worldsalone.terms import Setting
from worldsalone.walks import judged


def paper_at(facts):
    """The pair (node, None) of a right node at a branch or, if there is none, (None, facts of a wrong branch)."""
    word, question = judged(facts)
    if word == "wrong":
        return (None, facts)
    if word != "open":
        return ((word,), None)
    nodes = []
    for answer in facts.answers(question):
        node, wrong = paper_at(facts.noted(question, answer))
        if wrong is not None:
            return (None, wrong)
        nodes.append(node)
    return (("ask", question, tuple(nodes)), None)


def decide_mode(book, name, mode):
    """("right", paper) or ("wrong", start) for an instruction and a mode."""
    paper, wrong = paper_at(Facts(Setting(book, name, mode)))
    return ("right", paper) if wrong is None else ("wrong", start_at(wrong))


def decide(book):
    """("right", papers) for a book, or ("wrong", name, mode, start) for the first that is not right."""
    papers = []
    for name, mode in due_papers(book):
        word, told = decide_mode(book, name, mode)
        if word == "wrong":
            return ("wrong", name, mode, told)
        papers.append((name, mode, told))
    return ("right", papers)


def is_right(book, name, mode):
    """Whether an instruction is right for a mode."""
    return decide_mode(book, name, mode)[0] == "right"
