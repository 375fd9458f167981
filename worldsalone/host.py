"""Hosts: they run worlds on a box, each as if it were alone."""

from worldsalone.choices import can_do
from worldsalone.copies import check_doubted
from worldsalone.errors import BadChoice, BadMachine, NotThere, TwiceTold
from worldsalone.hosting import Hosting
from worldsalone.hoststeps import step_world
from worldsalone.kinds import is_index
from worldsalone.machines import answered, arrived


def check_frames(many, frames):
    """Raises NotThere or TwiceTold unless the entries of a list are different numbers below many."""
    for number in frames:
        if not is_index(number, many):
            raise NotThere(number)
    for k, number in enumerate(frames):
        if number in frames[:k]:
            raise TwiceTold(number)


class Host:
    """Worlds on a box, and what was done with them."""

    def __init__(self, box, frames, doubted):
        check_frames(len(box.frames()), frames)
        self._hosting = Hosting(box, frames, doubted)
        check_doubted(box.meaning(), doubted)
        box.set_special("mode", 0)
        self._log = []

    def open_world(self, machine):
        """Opens a world with a machine and returns its number."""
        if machine.meaning() != self.box().meaning():
            raise BadMachine("meaning")
        w = self._hosting.admit(machine)
        self._log.append(("opened", w, machine))
        return w

    def do(self, choice):
        """Makes a choice and returns what it tells."""
        if not can_do(self, choice):
            raise BadChoice()
        makers = {
            "step": self._step,
            "bring": self._bring,
            "out": self._out,
            "share": self._share,
            "drop": self._drop,
            "special": self._special,
            "answer": self._answer,
            "arrive": self._arrive,
            "patch": self._patch,
            "unpatch": self._unpatch,
            "close": self._close,
        }
        maker = makers[choice[0]]
        members = choice[1:]
        noted = choice
        if choice[0] in ("answer", "arrive"):
            noted = choice + (self.machine(choice[1]).count(),)
        told = maker(*members)
        self._log.append(noted)
        return told

    def worlds(self):
        """The ascending list of the numbers of the open worlds."""
        return self._hosting.stock().worlds()

    def machine(self, w):
        """The machine of a world."""
        return self._hosting.machine(w)

    def counts(self, w):
        """The tuple (steps, fills, emulated) of a world since it was opened."""
        hosted = self._hosting.hosted(w)
        return (hosted.steps, hosted.fills, hosted.emulations)

    def mapping(self, w):
        """A twin of the mapping of a world."""
        return self._hosting.hosted(w).mapped.twin()

    def copies(self, w):
        """A twin of the copies of a world."""
        return self._hosting.hosted(w).patched.twin()

    def where(self, w, frame):
        """Where a frame of a world is."""
        self._check_frame(w, frame)
        return self._hosting.stock().where(w, frame)

    def world_word(self, w, frame, place):
        """A word of a world's machine."""
        self._check_frame(w, frame)
        return self._hosting.stock().read(w, frame, place)

    def world_special(self, w, name):
        """A special of a world's machine."""
        return self._hosting.hosted(w).machine_kept.special(name)

    def write_word(self, w, frame, place, word):
        """Gives a cell of a world a word, as an emulated store does."""
        if self.world_word(w, frame, place) != word:
            self._hosting.write(w, frame, place, word)

    def take_over(self, w, machine):
        """Gives a world's machine all parts of a machine but the frames."""
        self._hosting.take_over(w, machine)

    def bring_frame(self, w, frame, is_writing, kept):
        """Brings a frame of a world and returns the number of its frame of the box."""
        return self._hosting.bring(w, frame, is_writing, kept)

    def box(self):
        """The box."""
        return self._hosting.box()

    def log(self):
        """The list of what was done so far."""
        return list(self._log)

    def _check_frame(self, w, frame):
        """Raises UnknownWorld or NotThere unless this is the number of a frame of an open world."""
        if not is_index(frame, self._hosting.stock().many(w)):
            raise NotThere(frame)

    def _step(self, w):
        """("step", w)"""
        return step_world(self._hosting, w)

    def _bring(self, w, frame):
        """("bring", w, frame)"""
        if self.where(w, frame)[0] == "out":
            self._hosting.bring(w, frame, False, [])
        return self.where(w, frame)

    def _out(self, w, frame):
        """("out", w, frame)"""
        self._hosting.put_out(w, frame)
        return self.where(w, frame)

    def _share(self):
        """("share",)"""
        return self._hosting.share()

    def _drop(self, w):
        """("drop", w)"""
        self._hosting.drop(w)

    def _special(self, name, word):
        """("special", name, word)"""
        self.box().set_special(name, word)

    def _answer(self, w, port, word):
        """("answer", w, port, word)"""
        self.take_over(w, answered(self.machine(w), port, word))

    def _arrive(self, w, line):
        """("arrive", w, line)"""
        self.take_over(w, arrived(self.machine(w), line))

    def _patch(self, w, page):
        """("patch", w, page)"""
        self._hosting.patch(w, page)

    def _unpatch(self, w, page):
        """("unpatch", w, page)"""
        self._hosting.unpatch(w, page)

    def _close(self, w):
        """("close", w)"""
        self._hosting.close(w)
