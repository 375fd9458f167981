"""Case papers: trees of questions that show that an instruction is right, and what is wrong in them."""

from worldsalone.facts import Facts
from worldsalone.kinds import is_key_of, is_list, is_tuple_of
from worldsalone.terms import Setting
from worldsalone.walks import judged

MODES = ("user", "system")
LEAF_WORDS = ("right", "impossible")


def is_leaf(node):
    """Whether a thing is a leaf."""
    return is_tuple_of(node, 1) and is_key_of(node[0], LEAF_WORDS)


def is_ask(node):
    """Whether a thing is a node with a question, as far as its own form tells."""
    return is_tuple_of(node, 3) and is_key_of(node[0], ("ask",)) and isinstance(node[2], tuple)


def wrong_in_node(facts, node):
    """The word for what is wrong with a thing as a node at a branch, apart from the nodes in it, or None."""
    if is_leaf(node):
        return None if judged(facts)[0] == node[0] else "leaf"
    if not is_ask(node):
        return "form"
    if not facts.stands(node[1]):
        return "question"
    return None if len(node[2]) == len(facts.answers(node[1])) else "answers"


def first_wrong(book, name, mode, paper):
    """The tuple (path, word) of the first wrong node of a paper, or None."""
    # A list of what waits, the next node at its end, so that deep papers need no deep calls.
    waiting = [(Facts(Setting(book, name, mode)), paper, ())]
    while waiting:
        facts, node, path = waiting.pop()
        word = wrong_in_node(facts, node)
        if word is not None:
            return (path, word)
        if not is_leaf(node):
            _, question, nodes = node
            for k, answer in reversed(list(enumerate(facts.answers(question)))):
                waiting.append((facts.noted(question, answer), nodes[k], path + (k,)))
    return None


def due_papers(book):
    """The list of the pairs (name, mode) for which papers of a book are due, in order."""
    return [(instruction[0], mode) for instruction in book.instructions() for mode in MODES]


def is_named(thing, name, mode):
    """Whether a thing is a tuple of three that begins with a name and a mode."""
    return is_tuple_of(thing, 3) and is_key_of(thing[0], (name,)) and is_key_of(thing[1], (mode,))


def judge_papers(book, papers):
    """The tuple (number, path, word) of the first wrong one of the papers of a book, or None."""
    dues = due_papers(book)
    if not is_list(papers) or len(papers) != len(dues):
        return (len(dues), (), "form")
    for k, (name, mode) in enumerate(dues):
        if not is_named(papers[k], name, mode):
            return (k, (), "form")
        wrong = first_wrong(book, name, mode, papers[k][2])
        if wrong is not None:
            return (k,) + wrong
    return None
