"""The first wrong part of a saved form, or of changes, that may be anything.

Each function that is called wrong_.. returns the path from the thing on to its first wrong part, or None.
"""

from worldsalone.kinds import is_count, is_index, is_tuple_of
from worldsalone.machines import SPECIALS

# The members of a saved form behind its frames and seats, as they are called for machines.
REST = ("registers", "pc", "specials", "is_out", "lines", "outs", "answers", "arrivals", "count")
MEMBERS = 11
FRAMES = 0
SEATS = 1
FIRST_OF_REST = 2


def wrong_words(meaning, thing, many):
    """For a tuple of so many words, or of any number if many is None."""
    if not isinstance(thing, tuple) or (many is not None and len(thing) != many):
        return ()
    for k, word in enumerate(thing):
        if not meaning.is_word(word):
            return (k,)
    return None


def wrong_frames(meaning, thing):
    """For a tuple of different frames."""
    if not isinstance(thing, tuple):
        return ()
    for k, frame in enumerate(thing):
        path = wrong_words(meaning, frame, meaning.places())
        if path is not None:
            return (k,) + path
        if frame in thing[:k]:
            return (k,)
    return None


def wrong_seats(many, thing):
    """For seats where there are so many different frames."""
    if not isinstance(thing, tuple) or len(thing) == 0:
        return ()
    named = 0
    for k, seat in enumerate(thing):
        if not is_index(seat, min(named + 1, many)):
            return (k,)
        named = max(named, seat + 1)
    return None


def wrong_lines(meaning, thing):
    """For an ascending tuple of different lines."""
    if not isinstance(thing, tuple):
        return ()
    for k, line in enumerate(thing):
        if not meaning.is_word(line) or (k > 0 and line <= thing[k - 1]):
            return (k,)
    return None


def wrong_pair(meaning, thing, least):
    """For a pair of a count, which is at least this one, and a word."""
    if not is_tuple_of(thing, 2) or (is_count(thing[0]) and thing[0] < least):
        return ()
    if not is_count(thing[0]):
        return (0,)
    return None if meaning.is_word(thing[1]) else (1,)


def wrong_pairs(meaning, thing):
    """For a tuple of pairs of a count and a word whose counts do not descend."""
    if not isinstance(thing, tuple):
        return ()
    least = 0
    for k, pair in enumerate(thing):
        path = wrong_pair(meaning, pair, least)
        if path is not None:
            return (k,) + path
        least = pair[0]
    return None


def wrong_ports(meaning, thing, name):
    """For a tuple with the outs or answers, which the name tells, of each port."""
    if not is_tuple_of(thing, len(meaning.book().ports())):
        return ()
    for k, told in enumerate(thing):
        path = wrong_words(meaning, told, None) if name == "outs" else wrong_pairs(meaning, told)
        if path is not None:
            return (k,) + path
    return None


def wrong_member(meaning, name, thing):
    """For the member with one of the names of REST."""
    if name == "registers":
        return wrong_words(meaning, thing, meaning.book().registers())
    if name == "specials":
        return wrong_words(meaning, thing, len(SPECIALS))
    if name == "lines":
        return wrong_lines(meaning, thing)
    if name in ("outs", "answers"):
        return wrong_ports(meaning, thing, name)
    if name == "arrivals":
        return wrong_pairs(meaning, thing)
    if name == "pc":
        is_right = meaning.is_word(thing)
    else:
        is_right = is_index(thing, 2) if name == "is_out" else is_count(thing)
    return None if is_right else ()


def wrong_rest(meaning, members, first):
    """For the members that REST names, of which the first one has this number."""
    for k, name in enumerate(REST):
        path = wrong_member(meaning, name, members[k])
        if path is not None:
            return (first + k,) + path
    return None


def wrong_form(meaning, thing):
    """For the saved form of a machine of a meaning."""
    if not is_tuple_of(thing, MEMBERS):
        return ()
    path = wrong_frames(meaning, thing[FRAMES])
    if path is not None:
        return (FRAMES,) + path
    path = wrong_seats(len(thing[FRAMES]), thing[SEATS])
    if path is not None:
        return (SEATS,) + path
    path = wrong_rest(meaning, thing[FIRST_OF_REST:], FIRST_OF_REST)
    named = max(thing[SEATS]) + 1
    if path is None and named < len(thing[FRAMES]):
        return (FRAMES, named)
    return path


def wrong_change(meaning, seats, thing, least):
    """For a pair of the number, at least this one, of one of so many frames, and of its words."""
    if not is_tuple_of(thing, 2) or (is_count(thing[0]) and thing[0] < least):
        return ()
    if not is_index(thing[0], seats):
        return (0,)
    path = wrong_words(meaning, thing[1], meaning.places())
    return None if path is None else (1,) + path


def wrong_changes(meaning, seats, thing):
    """For changes to a saved form with so many seats."""
    if not is_tuple_of(thing, 2):
        return ()
    pairs, rest = thing
    if not isinstance(pairs, tuple):
        return (0,)
    least = 0
    for k, pair in enumerate(pairs):
        path = wrong_change(meaning, seats, pair, least)
        if path is not None:
            return (0, k) + path
        least = pair[0] + 1
    if not is_tuple_of(rest, len(REST)):
        return (1,)
    path = wrong_rest(meaning, rest, 0)
    return None if path is None else (1,) + path
