"""Worlds of hosts as boxes, on which other hosts can stand."""

from worldsalone.bare import box_of
from worldsalone.errors import BadMachine, NoRoom
from worldsalone.hoststeps import changed_words
from worldsalone.machines import answered, of_parts, parts_of, ready_answers, with_part

RIGHTS = ("r", "w", "x")
# Rows of these kinds work on what the world's host keeps itself.
KEPT_KINDS = ("get", "put", "in", "out")


def has_kept_kinds(rows):
    """Whether rows, those inside ifs included, contain a get, put, in or out."""
    # A list of what is still to be looked at, so that deeply nested ifs need no deep calls.
    waiting = list(rows)
    while waiting:
        row = waiting.pop()
        if row[0] in KEPT_KINDS:
            return True
        if row[0] == "if":
            waiting.extend(list(row[2] + row[3]))
    return False


def entry_at(meaning, mapping, address):
    """The pair (frame, rights) to which a mapping in its plain form leads an address."""
    return mapping.get(meaning.page(address), (None, ""))


def rows_at(host, w, mapping, pc):
    """The user rows of the instruction that a mapping finds at pc in a world, or no rows if it finds none."""
    meaning = host.box().meaning()
    frame, rights = entry_at(meaning, mapping, pc)
    if "x" not in rights:
        return ()
    code = meaning.code_of(host.world_word(w, frame, meaning.place(pc)))
    return () if code is None else meaning.book().instruction(code[0])[2]


def may_be_stored_in(host, w, frame):
    """Whether a bare step of the host's own box may store in a frame of a world."""
    copies = host.copies(w)
    return frame != host.world_special(w, "table") and frame not in copies.copied() + copies.closed()


def rights_now(host, w, frame, rights):
    """The string of those rights at a frame of a world that the box of the host can grant as the frame lies now."""
    where = host.where(w, frame)
    if where[0] == "out":
        return ""
    can_store = where[0] == "in" and may_be_stored_in(host, w, frame)
    return "".join([right for right in RIGHTS if right in rights and (right != "w" or can_store)])


def together(host, w, mapping):
    """The plain form of a mapping that leads to frames of a world, put together with where they lie now."""
    # This refuses what is not the number of an open world, also for a mapping without entries.
    host.counts(w)
    found = {}
    for page in mapping:
        frame, rights = mapping[page]
        granted = rights_now(host, w, frame, rights)
        if granted != "":
            found[page] = (host.where(w, frame)[1], granted)
    return found


def has_brought(host, w, brought, frame, right):
    """Brings a frame for a right, while those that were brought stay; returns whether there was room."""
    kept = [host.where(w, other)[1] for other in brought]
    try:
        host.bring_frame(w, frame, right == "w", kept)
    except NoRoom:
        return False
    return True


def own_box_bare(host, w, mapping, registers, pc):
    """The end of a bare step of the host's own box, or None if the host has to carry out the rows itself."""
    meaning = host.box().meaning()
    brought = []
    while True:
        end = host.box().bare(together(host, w, mapping), registers, pc)
        if end[0] != "refused":
            return end
        _, address, right = end
        frame, rights = entry_at(meaning, mapping, address)
        if right not in rights:
            return end
        if right == "w" and not may_be_stored_in(host, w, frame):
            return None
        if not has_brought(host, w, brought, frame, right):
            return None
        brought.append(frame)


def machine_behind(machine, box):
    """The machine of a world behind a bare step of a box that was made of it, with its frames as they were."""
    parts = parts_of(machine)
    outs = box.outs()
    left = box.answers()
    ready = box_of(machine).answers()
    parts["specials"] = box.specials()
    parts["outs"] = {port: parts["outs"][port] + outs[port] for port in outs}
    parts["answers"] = {port: parts["answers"][port][len(ready[port]) - len(left[port]):] for port in left}
    return of_parts(machine.meaning(), parts)


def machine_bare(host, w, mapping, registers, pc):
    """The end of a bare step that the host carries out itself on the world's machine."""
    machine = host.machine(w)
    box = box_of(machine)
    end = box.bare(mapping, registers, pc)
    if end[0] == "done":
        for frame, place, word in changed_words(machine.frames(), box.frames()):
            host.write_word(w, frame, place, word)
        host.take_over(w, machine_behind(machine, box))
    return end


def inner_bare(host, w, mapping, registers, pc):
    """The end of a bare step of the box that is made of a world in user mode."""
    if not has_kept_kinds(rows_at(host, w, mapping, pc)):
        end = own_box_bare(host, w, mapping, registers, pc)
        if end is not None:
            return end
    return machine_bare(host, w, mapping, registers, pc)


class WorldBox:
    """The box that is made of a world; it works on the world as it is at the moment."""

    def __init__(self, host, w):
        # This refuses what is not the number of an open world, as each method does.
        host.counts(w)
        self._host = host
        self._world = w

    def host(self):
        """The host of the world."""
        return self._host

    def world(self):
        """The number of the world."""
        return self._world

    def meaning(self):
        """The meaning."""
        self._host.counts(self._world)
        return self._host.box().meaning()

    def frames(self):
        """The list of the frames of the world, each a list of words."""
        return self._world_machine().frames()

    def specials(self):
        """The dict from the names of the specials of the world to their words."""
        return self._world_machine().specials()

    def answers(self):
        """The dict from the ports to the lists of the words that the world could take in its next step."""
        return ready_answers(self._world_machine())

    def outs(self):
        """The dict from the ports to the lists of words that the world put out there."""
        return self._world_machine().outs()

    def peek(self, frame, place):
        """The word at a place of a frame."""
        return self._host.world_word(self._world, frame, place)

    def poke(self, frame, place, word):
        """Gives a place of a frame another word."""
        # This refuses what is not there, ahead of a wrong word.
        self.peek(frame, place)
        if not self.meaning().is_word(word):
            raise BadMachine("frames")
        self._host.write_word(self._world, frame, place, word)

    def special(self, name):
        """The word of a special."""
        return self._host.world_special(self._world, name)

    def set_special(self, name, word):
        """Gives a special another word, the mode 0 only."""
        present = self.special(name)
        if not self.meaning().is_word(word) or (name == "mode" and word != 0):
            raise BadMachine("specials")
        if word != present:
            specials = self.specials()
            specials[name] = word
            self._host.take_over(self._world, with_part(self._world_machine(), "specials", specials))

    def give(self, port, word):
        """Gives the world an answer at its present count."""
        self._host.take_over(self._world, answered(self._world_machine(), port, word))

    def bare(self, mapping, registers, pc):
        """Carries out a bare step and returns its end."""
        self.set_special("mode", 0)
        return inner_bare(self._host, self._world, mapping, registers, pc)

    def _world_machine(self):
        """The machine of the world."""
        return self._host.machine(self._world)


def way_of(host, w, frame):
    """The tuple of the frames in which a frame of a world lies, down to the first box."""
    found = []
    where = host.where(w, frame)
    while where[0] != "out":
        found.append(where[1])
        box = host.box()
        if not isinstance(box, WorldBox):
            return tuple(found)
        host = box.host()
        where = host.where(box.world(), where[1])
    return tuple(found)


def ways(host, w):
    """The list of the ways of all frames of a world."""
    return [way_of(host, w, frame) for frame in range(len(host.machine(w).frames()))]


def depth(box):
    """How many hosts stand between a box and the first one."""
    many = 0
    while isinstance(box, WorldBox):
        box = box.host().box()
        many += 1
    return many
