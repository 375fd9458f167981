"""Choices: what a host can be asked to do."""

from worldsalone.kinds import is_count

# What stands behind the first member of a choice.
CHOICE_FORMS = {
    "step": ("w",),
    "bring": ("w", "frame"),
    "out": ("w", "frame"),
    "share": (),
    "drop": ("w",),
    "special": ("name", "word"),
    "answer": ("w", "port", "word"),
    "arrive": ("w", "line"),
    "patch": ("w", "page"),
    "unpatch": ("w", "page"),
    "close": ("w",),
}
STRINGS = ("name", "port")


def is_member(name, thing):
    """Whether a thing has the kind of the member of a choice with this name."""
    return isinstance(thing, str) if name in STRINGS else is_count(thing)


def is_choice(value):
    """Whether a value has one of the forms of choices."""
    if not isinstance(value, tuple) or len(value) == 0 or not isinstance(value[0], str):
        return False
    if value[0] not in CHOICE_FORMS or len(value) != 1 + len(CHOICE_FORMS[value[0]]):
        return False
    form = CHOICE_FORMS[value[0]]
    return all([is_member(name, thing) for name, thing in zip(form, value[1:])])
