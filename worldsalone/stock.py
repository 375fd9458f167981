"""Stocks: frames of a box that are sold to worlds by parts."""

from worldsalone.errors import NoRoom, NotThere, UnknownWorld
from worldsalone.holding import Holding, moves_between
from worldsalone.kinds import is_count, is_index, is_key_of, is_tuple_of

# A step needs at most so many frames at once: for the fetch and for three touches.
FEWEST = 4


class Stock:
    """The frames of worlds, each in a frame of the box, alone or shared, or aside."""

    def __init__(self, box, frames):
        if len(frames) < FEWEST:
            raise NoRoom()
        self._box = box
        self._holding = Holding(frames)
        self._sizes = {}
        self._opened = 0
        self._aside = {}

    def open_world(self, contents):
        """Opens a world with the words of its frames, and returns its number."""
        w = self._opened
        self._opened = w + 1
        self._sizes[w] = len(contents)
        for frame, words in enumerate(contents):
            self._aside[(w, frame)] = list(words)
        return w

    def close_world(self, w):
        """Closes a world and returns the moves."""
        self._check_world(w)
        before = self._holding.boxes()
        copied = self.copies(w)
        for frame in copied:
            self._forget((w, ("copy", frame)))
        for frame in range(self._sizes[w]):
            self._forget((w, frame))
        del self._sizes[w]
        return self._moves_since(before)

    def worlds(self):
        """The ascending list of the numbers of the open worlds."""
        return sorted(self._sizes)

    def many(self, w):
        """The number of frames of a world."""
        self._check_world(w)
        return self._sizes[w]

    def where(self, w, frame):
        """Where a frame lies: ("in", g), ("shared", g) or ("out",)."""
        self._check_frame(w, frame, True)
        g = self._holding.box_frame((w, frame))
        if g is None:
            return ("out",)
        return ("in", g) if len(self._holding.lying(g)) == 1 else ("shared", g)

    def frame_words(self, w, frame):
        """The list of the words of a frame."""
        self._check_frame(w, frame, True)
        g = self._holding.box_frame((w, frame))
        if g is None:
            return list(self._aside[(w, frame)])
        return [self._box.peek(g, place) for place in range(self._places())]

    def lying(self, g):
        """The ascending list of the tuples (world, frame) of the frames in a frame of the box."""
        if not self._holding.has(g):
            raise NotThere(g)
        return self._holding.lying(g)

    def free(self):
        """The ascending list of the frames of the stock in which no frame lies."""
        return self._holding.free()

    def full(self):
        """The list of the other frames of the stock, in the order in which they became full."""
        return self._holding.full()

    def read(self, w, frame, place):
        """A word of a frame."""
        self._check_frame(w, frame, True)
        self._check_place(place)
        g = self._holding.box_frame((w, frame))
        return self._aside[(w, frame)][place] if g is None else self._box.peek(g, place)

    def write(self, w, frame, place, word):
        """Writes a word of a frame, which is parted first if it is shared, and returns the moves."""
        self._check_frame(w, frame, False)
        self._check_place(place)
        before = self._holding.boxes()
        lodger = (w, frame)
        if self.where(w, frame)[0] == "shared":
            self._part(lodger)
        g = self._holding.box_frame(lodger)
        if g is None:
            self._aside[lodger][place] = word
        else:
            self._box.poke(g, place, word)
        return self._moves_since(before)

    def put_out(self, w, frame):
        """Puts a frame out and returns the moves."""
        self._check_frame(w, frame, True)
        before = self._holding.boxes()
        self._put_aside((w, frame))
        return self._moves_since(before)

    def brought(self, w, frame, is_writing, kept):
        """Brings a frame for reading or for writing, and returns its frame of the box and the moves."""
        self._check_frame(w, frame, not is_writing)
        lodger = (w, frame)
        if self._lies_well(lodger, is_writing):
            return (self._holding.box_frame(lodger), ())
        g = self._room(kept)
        if g is None:
            raise NoRoom()
        before = self._holding.boxes()
        others = self._holding.lying(g)
        for other in others:
            self._put_aside(other)
        self._put_aside(lodger)
        self._bring(lodger, g)
        return (g, self._moves_since(before))

    def can_bring(self, w, frame, is_writing, kept):
        """Whether there is room to bring a frame."""
        self._check_frame(w, frame, not is_writing)
        return self._lies_well((w, frame), is_writing) or self._room(kept) is not None

    def make_copy(self, w, frame, words):
        """Makes the copy of a frame, with these words, and returns the moves."""
        self._check_frame(w, frame, False)
        before = self._holding.boxes()
        lodger = (w, ("copy", frame))
        self._forget(lodger)
        self._aside[lodger] = list(words)
        return self._moves_since(before)

    def drop_copy(self, w, frame):
        """Drops the copy of a frame, if there is one, and returns the moves."""
        self._check_frame(w, frame, False)
        before = self._holding.boxes()
        self._forget((w, ("copy", frame)))
        return self._moves_since(before)

    def copies(self, w):
        """The ascending list of the numbers of the frames of which there is a copy."""
        self._check_world(w)
        return [frame for frame in range(self._sizes[w]) if self._is_there((w, ("copy", frame)))]

    def unite(self, g, others):
        """Lets all frames that lie in other frames of the box, with equal words, lie in g."""
        self._holding.unite(g, others)

    def _check_world(self, w):
        """Raises UnknownWorld unless w is the number of an open world."""
        if not is_count(w) or w not in self._sizes:
            raise UnknownWorld(w)

    def _check_frame(self, w, frame, may_be_copy):
        """Raises UnknownWorld or NotThere unless this is a frame of an open world, or perhaps a copy that is there."""
        self._check_world(w)
        if is_index(frame, self._sizes[w]):
            return
        if not may_be_copy or not is_tuple_of(frame, 2) or not is_key_of(frame[0], ("copy",)):
            raise NotThere(frame)
        if not is_index(frame[1], self._sizes[w]) or not self._is_there((w, frame)):
            raise NotThere(frame)

    def _check_place(self, place):
        """Raises NotThere unless this is the number of a place."""
        if not is_index(place, self._places()):
            raise NotThere(place)

    def _places(self):
        """The number of places of a frame."""
        return self._box.meaning().places()

    def _is_there(self, lodger):
        """Whether there is such a frame or copy, in the box or aside."""
        return lodger in self._aside or self._holding.box_frame(lodger) is not None

    def _moves_since(self, before):
        """The moves since the holding told this of the lodgers."""
        return moves_between(before, self._holding.boxes())

    def _forget(self, lodger):
        """Lets a frame or copy be no longer there, if it is there."""
        if lodger in self._aside:
            del self._aside[lodger]
        elif self._holding.box_frame(lodger) is not None:
            self._holding.leave(lodger)

    def _put_aside(self, lodger):
        """Puts a frame out, if it is not out."""
        if lodger not in self._aside:
            words = self.frame_words(lodger[0], lodger[1])
            self._holding.leave(lodger)
            self._aside[lodger] = words

    def _bring(self, lodger, g):
        """Lets a frame that is out lie in a free frame of the box."""
        words = self._aside[lodger]
        del self._aside[lodger]
        for place, word in enumerate(words):
            self._box.poke(g, place, word)
        self._holding.enter(lodger, g)

    def _part(self, lodger):
        """Lets a shared frame lie alone, or puts it out where no frame of the box is free."""
        self._put_aside(lodger)
        free = self._holding.free()
        if free != []:
            self._bring(lodger, free[0])

    def _lies_well(self, lodger, is_writing):
        """Whether nothing has to change to bring a frame."""
        g = self._holding.box_frame(lodger)
        return g is not None and (not is_writing or len(self._holding.lying(g)) == 1)

    def _room(self, kept):
        """The frame of the box into which a frame is brought, or None."""
        room = [g for g in self._holding.free() + self._holding.full() if g not in kept]
        return None if room == [] else room[0]
