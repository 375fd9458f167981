"""Moving worlds from one host to another one while they go on stepping."""

from worldsalone.errors import BadChoice, BadMachine


class Moving:
    """A move of a world, and what of it was sent so far."""

    def __init__(self, host, world, other):
        # This refuses what is not the number of an open world.
        host.counts(world)
        if host.box().meaning() != other.box().meaning():
            raise BadMachine("meaning")
        self._host = host
        self._world = world
        self._other = other
        self._sent = {}
        self._sendings = []

    def due(self):
        """The ascending tuple of the numbers of the due frames."""
        frames = self._open_frames()
        return tuple([k for k, words in enumerate(frames) if self._sent.get(k, None) != words])

    def send(self, many):
        """Sends so many due frames, or all if there are not so many, and returns the tuple of their numbers."""
        frames = self._open_frames()
        sent = self.due()[:many]
        for k in sent:
            self._sent[k] = frames[k]
        self._sendings.append(sent)
        return sent

    def sendings(self):
        """The list of what all sendings returned."""
        return list(self._sendings)

    def finish(self):
        """Finishes the move; returns the number of the world at the other host, and what was sent last."""
        sent = self.send(len(self.due()))
        number = self._other.open_world(self._host.machine(self._world))
        self._host.do(("close", self._world))
        return (number, sent)

    def _open_frames(self):
        """The list of the frames of the world, which is refused behind its closing, be it by the end of the move."""
        if self._world not in self._host.worlds():
            raise BadChoice()
        return self._host.machine(self._world).frames()


def moved(host, world, other, pace, most, rounds):
    """Moves a world in rounds, with its own steps between them; returns its number there and all sendings."""
    moving = Moving(host, world, other)
    made = 0
    while made < rounds and len(moving.due()) > most:
        sent = moving.send(len(moving.due()))
        for _ in range(pace * len(sent)):
            host.do(("step", world))
        made += 1
    number, _ = moving.finish()
    return (number, tuple(moving.sendings()))
