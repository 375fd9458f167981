"""A stock told once more, from the words of S4 alone, for the tests."""


class Model:
    """What a stock has to be: the words and places of all frames, and the order of the full frames of the box."""

    def __init__(self, frames):
        self.frames = sorted(frames)
        self.opened = 0
        self.sizes = {}
        self.words = {}
        self.at = {}
        self.full = []

    def lying(self, g):
        """The frames in a frame of the box, ascending, with copies behind numbers."""
        found = [seat for seat in self.at if self.at[seat] == g]
        return sorted(found, key=lambda seat: (seat[0], isinstance(seat[1], tuple), str(seat[1])))

    def free(self):
        """The frames of the box in which nothing lies."""
        return [g for g in self.frames if not self.lying(g)]

    def where(self, seat):
        """Where a frame lies."""
        if seat not in self.at:
            return ("out",)
        return ("in" if len(self.lying(self.at[seat])) == 1 else "shared", self.at[seat])

    def moves(self, before):
        """The moves since the places of the frames were these."""
        found = [(seat[0], seat[1], g) for seat, g in before.items() if self.at.get(seat) != g]
        return tuple(sorted(found, key=lambda move: (move[0], isinstance(move[1], tuple), str(move[1]))))

    def settle(self):
        """Takes the frames of the box that became free out of the full ones."""
        self.full = [g for g in self.full if self.lying(g)]

    def enter(self, seat, g):
        """Lets a frame lie in a frame of the box."""
        self.at[seat] = g
        if g not in self.full:
            self.full.append(g)

    def open_world(self, contents):
        """Opens a world."""
        w = self.opened
        self.opened += 1
        self.sizes[w] = len(contents)
        for frame, words in enumerate(contents):
            self.words[(w, frame)] = list(words)
        return w

    def drop(self, seats):
        """Lets frames be no longer there, and tells the moves."""
        before = dict(self.at)
        for seat in seats:
            self.words.pop(seat, None)
            self.at.pop(seat, None)
        self.settle()
        return self.moves(before)

    def close_world(self, w):
        """Closes a world."""
        del self.sizes[w]
        return self.drop([seat for seat in list(self.words) if seat[0] == w])

    def put_out(self, seat):
        """Puts a frame out."""
        before = dict(self.at)
        self.at.pop(seat, None)
        self.settle()
        return self.moves(before)

    def room(self, kept):
        """The frame of the box that would be taken, or None."""
        return next((g for g in self.free() + self.full if g not in kept), None)

    def is_well(self, seat, is_writing):
        """Whether a frame is brought already."""
        return self.where(seat)[0] in (("in",) if is_writing else ("in", "shared"))

    def brought(self, seat, is_writing, kept):
        """Brings a frame; None if there is no room."""
        if self.is_well(seat, is_writing):
            return (self.at[seat], ())
        g = self.room(kept)
        if g is None:
            return None
        before = dict(self.at)
        for other in self.lying(g) + [seat]:
            self.at.pop(other, None)
        self.settle()
        self.enter(seat, g)
        return (g, self.moves(before))

    def write(self, seat, place, word):
        """Writes a word."""
        before = dict(self.at)
        if self.where(seat)[0] == "shared":
            free = self.free()
            del self.at[seat]
            if free:
                self.enter(seat, free[0])
        self.words[seat][place] = word
        return self.moves(before)

    def make_copy(self, w, frame, words):
        """Makes a copy."""
        moves = self.drop([(w, ("copy", frame))])
        self.words[(w, ("copy", frame))] = list(words)
        return moves

    def groups(self):
        """The groups of alike full frames."""
        found = {}
        for g in sorted(self.full):
            lying = self.lying(g)
            if not any(isinstance(seat[1], tuple) for seat in lying):
                found.setdefault(tuple(self.words[lying[0]]), []).append(g)
        return list(found.values())

    def share_alike(self):
        """Shares alike frames."""
        freed, joined = [], []
        for group in self.groups():
            for g in group[1:]:
                for seat in self.lying(g):
                    self.at[seat] = group[0]
                freed.append(g)
            if group[1:]:
                joined.append(group[0])
        self.settle()
        return (sorted(freed), sorted(joined))
