"""Saved forms of machines, packed forms, and changes from one saved form to another."""

from worldsalone.errors import BadData
from worldsalone.machines import SPECIALS, Machine
from worldsalone.savedforms import FIRST_OF_REST, FRAMES, SEATS, wrong_changes, wrong_form
from worldsalone.unpacking import Reader, read_form


def seated(frames):
    """The first two members of a saved form: the different ones of these frames, and their seats."""
    different = []
    seats = []
    for frame in frames:
        words = tuple(frame)
        if words not in different:
            different.append(words)
        seats.append(different.index(words))
    return (tuple(different), tuple(seats))


def frames_of(data):
    """The list of the frames, one for each seat, of a saved form."""
    return [data[FRAMES][seat] for seat in data[SEATS]]


def saved_machine(machine):
    """The saved form of a machine."""
    ports = machine.meaning().book().ports()
    specials = machine.specials()
    outs = machine.outs()
    answers = machine.answers()
    rest = (
        tuple(machine.registers()),
        machine.pc(),
        tuple([specials[name] for name in SPECIALS]),
        1 if machine.is_out() else 0,
        machine.lines(),
        tuple([tuple(outs[port]) for port in ports]),
        tuple([tuple(answers[port]) for port in ports]),
        tuple(machine.arrivals()),
        machine.count(),
    )
    return seated(machine.frames()) + rest


def machine_of(meaning, data):
    """The machine with a saved form that is right."""
    ports = meaning.book().ports()
    registers, pc, specials, is_out, lines, outs, answers, arrivals, count = data[FIRST_OF_REST:]
    words = {name: word for name, word in zip(SPECIALS, specials)}
    told = {port: words_out for port, words_out in zip(ports, outs)}
    given = {port: pairs for port, pairs in zip(ports, answers)}
    return Machine(meaning, frames_of(data), registers, pc, words, is_out == 1, lines, told, given, arrivals, count)


def restored_machine(meaning, data):
    """The machine with a saved form that may be anything."""
    path = wrong_form(meaning, data)
    if path is not None:
        raise BadData(path)
    return machine_of(meaning, data)


def counted(parts):
    """The list of the number of parts, each a list of integers, and of the integers of all of them."""
    return [len(parts)] + [number for part in parts for number in part]


def packed(data):
    """The packed form of a saved form."""
    frames, seats, registers, pc, specials, is_out, lines, outs, answers, arrivals, count = data
    numbers = [len(seats)] + counted(frames) + list(seats) + list(registers) + [pc] + list(specials) + [is_out]
    numbers.extend([len(lines)] + list(lines))
    for words in outs:
        numbers.extend([len(words)] + list(words))
    for pairs in answers:
        numbers.extend(counted(pairs))
    return tuple(numbers + counted(arrivals) + [count])


def unpacked(meaning, numbers):
    """The saved form with a packed form whose members may be anything."""
    reader = Reader(numbers)
    data = read_form(reader, meaning)
    reader.finish()
    return data


def difference(early, late):
    """The changes from one saved form to another one with as many seats."""
    if len(early[SEATS]) != len(late[SEATS]):
        raise BadData((1,))
    frames = frames_of(late)
    pairs = [(k, frames[k]) for k, words in enumerate(frames_of(early)) if words != frames[k]]
    return (tuple(pairs), late[FIRST_OF_REST:])


def applied(meaning, early, changes):
    """The saved form that changes, which may be anything, make of one."""
    path = wrong_changes(meaning, len(early[SEATS]), changes)
    if path is not None:
        raise BadData(path)
    frames = frames_of(early)
    for number, words in changes[0]:
        frames[number] = words
    return seated(frames) + changes[1]


def joined(first, last):
    """The changes that do what the first and then the last ones do."""
    words = {number: told for number, told in first[0] + last[0]}
    return (tuple([(number, words[number]) for number in sorted(words)]), last[1])


def saved(host, world):
    """The saved form of the machine of a world."""
    return saved_machine(host.machine(world))


def restored(host, data):
    """Opens the machine with a saved form, which may be anything, and returns the number of the world."""
    return host.open_world(restored_machine(host.box().meaning(), data))
