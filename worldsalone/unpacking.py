"""Packed forms, read from left to right."""

from worldsalone.errors import BadData
from worldsalone.kinds import is_index, is_number
from worldsalone.machines import SPECIALS


class Reader:
    """Numbers, which may be anything, and the place of the next one."""

    def __init__(self, numbers):
        self._numbers = tuple(numbers)
        self._place = 0

    def read(self, least):
        """The next number, which is at least this one."""
        if self._place == len(self._numbers):
            self._refuse(self._place)
        thing = self._numbers[self._place]
        if not is_number(thing) or thing < least:
            self._refuse(self._place)
        self._place += 1
        return thing

    def below(self, least, many):
        """The next number, which is at least the first and below the other of these."""
        number = self.read(least)
        if not is_index(number, many):
            self.refuse_last()
        return number

    def refuse_last(self):
        """Refuses the number that was read last."""
        self._refuse(self._place - 1)

    def finish(self):
        """Refuses the next number, if there is one."""
        if self._place < len(self._numbers):
            self._refuse(self._place)

    def _refuse(self, place):
        """Refuses the numbers at a place."""
        raise BadData((place,))


def read_words(reader, meaning, many):
    """The tuple of so many words."""
    words = []
    for _ in range(many):
        words.append(reader.below(0, meaning.words()))
    return tuple(words)


def read_frames(reader, meaning, many):
    """The tuple of so many different frames."""
    frames = []
    for _ in range(many):
        frame = read_words(reader, meaning, meaning.places())
        if frame in frames:
            reader.refuse_last()
        frames.append(frame)
    return tuple(frames)


def read_seats(reader, many, frames):
    """The tuple of so many seats, which name so many frames."""
    seats = []
    named = 0
    for _ in range(many):
        seats.append(reader.below(0, min(named + 1, frames)))
        named = max(named, seats[-1] + 1)
    if named < frames:
        reader.refuse_last()
    return tuple(seats)


def read_lines(reader, meaning):
    """The ascending tuple of the lines, with their number ahead of them."""
    many = reader.read(0)
    lines = []
    least = 0
    for _ in range(many):
        lines.append(reader.below(least, meaning.words()))
        least = lines[-1] + 1
    return tuple(lines)


def read_pairs(reader, meaning):
    """The tuple of pairs of a count and a word, with their number ahead of them."""
    many = reader.read(0)
    pairs = []
    least = 0
    for _ in range(many):
        least = reader.read(least)
        pairs.append((least, reader.below(0, meaning.words())))
    return tuple(pairs)


def read_form(reader, meaning):
    """The saved form of a machine of a meaning."""
    book = meaning.book()
    seats = reader.read(1)
    many = reader.below(1, seats + 1)
    frames = read_frames(reader, meaning, many)
    named = read_seats(reader, seats, many)
    registers = read_words(reader, meaning, book.registers())
    pc = reader.below(0, meaning.words())
    specials = read_words(reader, meaning, len(SPECIALS))
    is_out = reader.below(0, 2)
    lines = read_lines(reader, meaning)
    outs = tuple([read_words(reader, meaning, reader.read(0)) for _ in book.ports()])
    answers = tuple([read_pairs(reader, meaning) for _ in book.ports()])
    arrivals = read_pairs(reader, meaning)
    return (frames, named, registers, pc, specials, is_out, lines, outs, answers, arrivals, reader.read(0))
