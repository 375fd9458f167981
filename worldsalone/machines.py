"""Machines: all that one machine is at a moment."""

from worldsalone.errors import BadMachine, NotThere, UnknownName
from worldsalone.kinds import has_just, is_count, is_index, is_key_of, is_list

SPECIALS = ("mode", "table", "handler", "enabled", "timer", "cause", "back", "was", "fault")
PARTS = ("frames", "registers", "pc", "specials", "is_out", "lines", "outs", "answers", "arrivals", "count")


def are_words(meaning, thing):
    """Whether a thing is a list of words."""
    return is_list(thing) and all([meaning.is_word(word) for word in thing])


def is_frame(meaning, thing):
    """Whether a thing is a frame."""
    return are_words(meaning, thing) and len(thing) == meaning.places()


def are_frames(meaning, thing):
    """Whether a thing can be the frames of a machine or a box."""
    return is_list(thing) and len(thing) > 0 and all([is_frame(meaning, frame) for frame in thing])


def are_registers(meaning, thing):
    """Whether a thing can be the registers of a machine."""
    return are_words(meaning, thing) and len(thing) == meaning.book().registers()


def is_pc(meaning, thing):
    """Whether a thing can be the pc of a machine."""
    return meaning.is_word(thing)


def are_specials(meaning, thing):
    """Whether a thing can be the specials of a machine."""
    return has_just(thing, SPECIALS) and all([meaning.is_word(thing[name]) for name in SPECIALS])


def is_flag(_, thing):
    """Whether a thing can be the flag of a machine."""
    return thing is True or thing is False


def are_lines(meaning, thing):
    """Whether a thing can be the lines of a machine."""
    if not isinstance(thing, tuple) or not are_words(meaning, thing):
        return False
    return all([thing[k] < thing[k + 1] for k in range(len(thing) - 1)])


def are_port_words(meaning, thing):
    """Whether a thing gives each port a list of words, as outs and the answers of a box do."""
    ports = meaning.book().ports()
    return has_just(thing, ports) and all([are_words(meaning, thing[port]) for port in ports])


def is_pair(meaning, thing):
    """Whether a thing is a pair of a count and a word."""
    return isinstance(thing, tuple) and len(thing) == 2 and is_count(thing[0]) and meaning.is_word(thing[1])


def are_pairs(meaning, thing):
    """Whether a thing is a list of pairs (count, word) whose counts do not descend."""
    if not is_list(thing) or not all([is_pair(meaning, pair) for pair in thing]):
        return False
    return all([thing[k][0] <= thing[k + 1][0] for k in range(len(thing) - 1)])


def are_answers(meaning, thing):
    """Whether a thing can be the answers of a machine."""
    ports = meaning.book().ports()
    return has_just(thing, ports) and all([are_pairs(meaning, thing[port]) for port in ports])


def is_step_count(_, thing):
    """Whether a thing can be the count of a machine."""
    return is_count(thing)


CHECKS = {
    "frames": are_frames,
    "registers": are_registers,
    "pc": is_pc,
    "specials": are_specials,
    "is_out": is_flag,
    "lines": are_lines,
    "outs": are_port_words,
    "answers": are_answers,
    "arrivals": are_pairs,
    "count": is_step_count,
}


def check_parts(meaning, parts):
    """Raises BadMachine for the first wrong part; parts has all of them in order."""
    for name, part in zip(PARTS, parts):
        is_right = CHECKS[name]
        if not is_right(meaning, part):
            raise BadMachine(name)


def check_cell(frames, frame, place):
    """Raises NotThere unless frame and place are the numbers of a frame and of a place of it."""
    if not is_index(frame, len(frames)):
        raise NotThere(frame)
    if not is_index(place, len(frames[frame])):
        raise NotThere(place)


class Machine:
    """All parts of a machine at a moment; it never changes."""

    def __init__(self, meaning, frames, registers, pc, specials, is_out, lines, outs, answers, arrivals, count):
        check_parts(meaning, (frames, registers, pc, specials, is_out, lines, outs, answers, arrivals, count))
        ports = meaning.book().ports()
        self._meaning = meaning
        self._frames = tuple([tuple(frame) for frame in frames])
        self._registers = tuple(registers)
        self._pc = pc
        self._specials = {name: specials[name] for name in SPECIALS}
        self._is_out = is_out
        self._lines = lines
        self._outs = {port: tuple(outs[port]) for port in ports}
        self._answers = {port: tuple(answers[port]) for port in ports}
        self._arrivals = tuple(arrivals)
        self._count = count

    def meaning(self):
        """The meaning."""
        return self._meaning

    def frames(self):
        """The list of the frames, each a list of words."""
        return [list(frame) for frame in self._frames]

    def registers(self):
        """The list of the words of the registers."""
        return list(self._registers)

    def pc(self):
        """The address of the next instruction."""
        return self._pc

    def specials(self):
        """The dict from the names of the specials to their words."""
        return {name: self._specials[name] for name in SPECIALS}

    def is_out(self):
        """The flag: whether the timer has run out."""
        return self._is_out

    def lines(self):
        """The ascending tuple of the lines that wait."""
        return self._lines

    def outs(self):
        """The dict from the ports to the lists of words that were put out there."""
        return {port: list(self._outs[port]) for port in self._outs}

    def answers(self):
        """The dict from the ports to the lists of pairs (count, word) that were not taken yet."""
        return {port: list(self._answers[port]) for port in self._answers}

    def arrivals(self):
        """The list of pairs (count, line) of the arrivals that have not come yet."""
        return list(self._arrivals)

    def count(self):
        """The number of counted steps so far."""
        return self._count

    def word(self, frame, place):
        """The word at a place of a frame."""
        check_cell(self._frames, frame, place)
        return self._frames[frame][place]

    def special(self, name):
        """The word of a special."""
        if not is_key_of(name, SPECIALS):
            raise UnknownName(name)
        return self._specials[name]

    def is_user(self):
        """Whether the machine is in user mode."""
        return self._specials["mode"] == 0

    def __eq__(self, other):
        if not isinstance(other, Machine) or self._meaning != other._meaning:
            return False
        if self._frames != other._frames or self._registers != other._registers or self._pc != other._pc:
            return False
        if self._specials != other._specials or self._is_out != other._is_out or self._lines != other._lines:
            return False
        if self._outs != other._outs or self._answers != other._answers:
            return False
        return self._arrivals == other._arrivals and self._count == other._count


def parts_of(machine):
    """The dict from the names of the parts of a machine to the parts, apart from its meaning."""
    return {
        "frames": machine.frames(),
        "registers": machine.registers(),
        "pc": machine.pc(),
        "specials": machine.specials(),
        "is_out": machine.is_out(),
        "lines": machine.lines(),
        "outs": machine.outs(),
        "answers": machine.answers(),
        "arrivals": machine.arrivals(),
        "count": machine.count(),
    }


def of_parts(meaning, parts):
    """The machine with the parts that a dict gives as parts_of does."""
    told = [parts[name] for name in PARTS]
    return Machine(meaning, *told)


def with_part(machine, name, part):
    """The machine with another part, which is refused as Machine does if it is wrong."""
    parts = parts_of(machine)
    parts[name] = part
    return of_parts(machine.meaning(), parts)


def fresh(meaning, frames, registers, pc, specials):
    """A machine of which nothing but these parts is told, at count 0."""
    outs = {port: [] for port in meaning.book().ports()}
    return Machine(meaning, frames, registers, pc, specials, False, (), outs, outs, [], 0)


def put_in(pairs, count, word):
    """The list of pairs with (count, word) put behind the last pair whose count is not greater."""
    due = [pair for pair in pairs if pair[0] <= count]
    return due + [(count, word)] + pairs[len(due):]


def answered(machine, port, word):
    """The machine with an answer at its present count."""
    answers = machine.answers()
    if not is_key_of(port, answers):
        raise UnknownName(port)
    answers[port] = put_in(answers[port], machine.count(), word)
    return with_part(machine, "answers", answers)


def arrived(machine, line):
    """The machine with a line that arrives at its present count."""
    return with_part(machine, "arrivals", put_in(machine.arrivals(), machine.count(), line))


def poked(machine, frame, place, word):
    """The machine with another word at a place of a frame."""
    frames = machine.frames()
    check_cell(frames, frame, place)
    frames[frame][place] = word
    return with_part(machine, "frames", frames)


def ready_answers(machine):
    """The dict from the ports to the words of the answers that can be taken in the next step."""
    answers = machine.answers()
    count = machine.count()
    return {port: [pair[1] for pair in answers[port] if pair[0] <= count] for port in answers}
