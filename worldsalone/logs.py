"""Logs of what machines were given, and what they tell of each moment."""

from worldsalone.errors import BadChoice, UnknownName
from worldsalone.kinds import is_key_of, is_number
from worldsalone.machines import answered, arrived
from worldsalone.steps import step


class Log:
    """A machine, and the answers and arrivals that it was given later."""

    def __init__(self, machine):
        self._machine = machine
        self._noted = []

    def answer(self, port, word, count):
        """Notes an answer that was given at a count."""
        if not is_key_of(port, self._machine.meaning().book().ports()):
            raise UnknownName(port)
        self._note(("answer", count, port, word), word)

    def arrive(self, line, count):
        """Notes a line that arrived at a count."""
        self._note(("arrive", count, line), line)

    def start(self):
        """The machine with which the log begins."""
        return self._machine

    def entries(self):
        """The list of the entries, ("answer", count, port, word) or ("arrive", count, line)."""
        return list(self._noted)

    def machine_at(self, count):
        """The machine of the log at a count."""
        check_count(self, count)
        replay = Replay(self)
        while replay.machine().count() < count:
            replay.go_on()
        return replay.machine()

    def _note(self, entry, word):
        """Notes an entry with a word, unless the word or the count is wrong."""
        counts = [self._machine.count()] + [noted[1] for noted in self._noted]
        if not self._machine.meaning().is_word(word) or not is_number(entry[1]) or entry[1] < counts[-1]:
            raise BadChoice()
        self._noted.append(entry)

    def __eq__(self, other):
        return isinstance(other, Log) and self._machine == other._machine and self._noted == other._noted


class Replay:
    """The machine of a log at one count after the other."""

    def __init__(self, log):
        self._machine = log.start()
        self._left = log.entries()
        self._give()

    def machine(self):
        """The machine of the log at the present count."""
        return self._machine

    def go_on(self):
        """Goes on to the next count."""
        self._machine = step(self._machine)[0]
        self._give()

    def _give(self):
        """Gives the machine what was noted at its count."""
        while self._left != [] and self._left[0][1] == self._machine.count():
            entry = self._left.pop(0)
            if entry[0] == "answer":
                self._machine = answered(self._machine, entry[2], entry[3])
            else:
                self._machine = arrived(self._machine, entry[2])


def check_count(log, count):
    """Raises BadChoice unless a log has a machine at a count."""
    if not is_number(count) or count < log.start().count():
        raise BadChoice()


def log_of(host, world):
    """The log of a world."""
    # This refuses what is not the number of an open world.
    host.counts(world)
    own = [entry for entry in host.log() if len(entry) > 1 and entry[1] == world]
    log = Log([entry[2] for entry in own if entry[0] == "opened"][0])
    for entry in own:
        if entry[0] == "answer":
            log.answer(entry[2], entry[3], entry[4])
        elif entry[0] == "arrive":
            log.arrive(entry[2], entry[3])
    return log


def choice_of(world, entry):
    """The choice that gives a world what an entry of a log notes."""
    return (entry[0], world) + entry[2:]


def replayed(host, log, count):
    """Opens a log's machine at a host and lets it make steps up to a count; returns the number of the world."""
    check_count(log, count)
    world = host.open_world(log.start())
    entries = log.entries()
    for present in range(log.start().count(), count + 1):
        for entry in entries:
            if entry[1] == present:
                host.do(choice_of(world, entry))
        if present < count:
            host.do(("step", world))
    return world


def holds(machine, watch):
    """Whether a watch holds of a machine."""
    kind = watch[0]
    if kind == "pc":
        return machine.pc() == watch[1]
    if kind == "register":
        return machine.registers()[watch[1]] == watch[2]
    if kind == "special":
        return machine.special(watch[1]) == watch[2]
    if kind == "cell":
        return machine.word(watch[1], watch[2]) == watch[3]
    return len(machine.outs()[watch[1]]) >= watch[2]


def first_when(log, watch, limit):
    """The least count up to a limit at which a watch holds of the machine of a log, or None."""
    replay = Replay(log)
    while replay.machine().count() <= limit:
        if holds(replay.machine(), watch):
            return replay.machine().count()
        replay.go_on()
    return None


def last_change(log, frame, place, count):
    """The greatest count up to this one at which a cell changes in a log, or None."""
    replay = Replay(log)
    found = None
    while replay.machine().count() < count:
        word = replay.machine().word(frame, place)
        replay.go_on()
        if replay.machine().word(frame, place) != word:
            found = replay.machine().count()
    return found


def apart_at(one, other, limit):
    """The least count up to a limit, at which both logs have a machine, at which these are not equal, or None."""
    replays = (Replay(one), Replay(other))
    first = max(one.start().count(), other.start().count())
    for replay in replays:
        while replay.machine().count() < first:
            replay.go_on()
    while replays[0].machine().count() <= limit:
        if replays[0].machine() != replays[1].machine():
            return replays[0].machine().count()
        for replay in replays:
            replay.go_on()
    return None
