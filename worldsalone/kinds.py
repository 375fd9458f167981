"""Questions about values of which nothing is known yet."""


def is_number(thing):
    """Whether a thing is an integer; True and False are none."""
    return isinstance(thing, int) and not isinstance(thing, bool)


def is_count(thing):
    """Whether a thing is an integer of at least 0."""
    return is_number(thing) and thing >= 0


def is_index(thing, many):
    """Whether a thing is the number of one of so many, counted from 0."""
    return is_count(thing) and thing < many


def is_list(thing):
    """Whether a thing is a list, or the tuple that may stand for one."""
    return isinstance(thing, (list, tuple))


def is_tuple_of(thing, many):
    """Whether a thing is a tuple with so many members."""
    return isinstance(thing, tuple) and len(thing) == many


def is_key_of(thing, names):
    """Whether a thing is one of the strings of a list, tuple or dict."""
    return isinstance(thing, str) and thing in names


def has_just(thing, names):
    """Whether a thing is a dict that has just these different strings as keys."""
    return isinstance(thing, dict) and len(thing) == len(names) and all([name in thing for name in names])
