"""Which frames of worlds lie in which frames of the box.

A lodger is a tuple (world, frame): the number of a world, and the number of a frame of it or,
for the copy of a frame, ("copy", number).
"""

from worldsalone.kinds import is_count


def lodger_order(lodger):
    """What lodgers are sorted by: worlds, then frames, with copies behind numbers."""
    world, frame = lodger
    return (world, 1, frame[1]) if isinstance(frame, tuple) else (world, 0, frame)


def moves_between(before, after):
    """The moves between two states that the method boxes of a Holding told."""
    left = [lodger for lodger in before if after.get(lodger, None) != before[lodger]]
    return tuple([(lodger[0], lodger[1], before[lodger]) for lodger in sorted(left, key=lodger_order)])


class Holding:
    """The frames of the box that a stock has, and the lodgers in them."""

    def __init__(self, frames):
        self._frames = tuple(sorted(frames))
        self._lodgers = {g: [] for g in self._frames}
        self._box_frames = {}
        self._full = []

    def has(self, g):
        """Whether a thing is the number of one of the frames."""
        return is_count(g) and g in self._lodgers

    def free(self):
        """The ascending list of the frames in which nothing lies."""
        return [g for g in self._frames if self._lodgers[g] == []]

    def full(self):
        """The list of the other frames, in the order in which they became full."""
        return list(self._full)

    def lying(self, g):
        """The ascending list of the lodgers in a frame."""
        return sorted(self._lodgers[g], key=lodger_order)

    def box_frame(self, lodger):
        """The frame in which a lodger lies, or None."""
        return self._box_frames.get(lodger, None)

    def boxes(self):
        """The dict from the lodgers to the frames in which they lie."""
        return {lodger: self._box_frames[lodger] for lodger in self._box_frames}

    def enter(self, lodger, g):
        """Notes that a lodger that lay nowhere lies in a frame now."""
        if self._lodgers[g] == []:
            self._full.append(g)
        self._lodgers[g].append(lodger)
        self._box_frames[lodger] = g

    def leave(self, lodger):
        """Notes that a lodger lies nowhere now."""
        g = self._box_frames[lodger]
        del self._box_frames[lodger]
        self._lodgers[g].remove(lodger)
        if self._lodgers[g] == []:
            self._full.remove(g)

    def unite(self, g, others):
        """Lets all lodgers of other frames lie in a frame that has lodgers already."""
        for other in others:
            lodgers = self.lying(other)
            for lodger in lodgers:
                self.leave(lodger)
                self.enter(lodger, g)
