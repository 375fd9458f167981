"""Boxes, on which hosts stand, and their bare steps."""

from worldsalone.carrying import carry_instruction
from worldsalone.drafts import Draft, MappingWays
from worldsalone.errors import BadMachine, UnknownName
from worldsalone.kinds import is_key_of
from worldsalone.machines import SPECIALS, are_frames, are_port_words, are_specials, check_cell, ready_answers


def check_box_parts(meaning, frames, specials, answers):
    """Raises BadMachine for the first wrong part of a box."""
    if not are_frames(meaning, frames):
        raise BadMachine("frames")
    if not are_specials(meaning, specials) or specials["mode"] != 0:
        raise BadMachine("specials")
    if not are_port_words(meaning, answers):
        raise BadMachine("answers")


class Box:
    """What a host stands on: frames, specials, answers and outs, which change."""

    def __init__(self, meaning, frames, specials, answers):
        check_box_parts(meaning, frames, specials, answers)
        ports = meaning.book().ports()
        self._meaning = meaning
        self._frames = [list(frame) for frame in frames]
        self._specials = {name: specials[name] for name in SPECIALS}
        self._answers = {port: list(answers[port]) for port in ports}
        self._outs = {port: [] for port in ports}

    def meaning(self):
        """The meaning."""
        return self._meaning

    def frames(self):
        """The list of the frames, each a list of words."""
        return [list(frame) for frame in self._frames]

    def specials(self):
        """The dict from the names of the specials to their words."""
        return {name: self._specials[name] for name in SPECIALS}

    def answers(self):
        """The dict from the ports to the lists of words that were not taken yet."""
        return {port: list(self._answers[port]) for port in self._answers}

    def outs(self):
        """The dict from the ports to the lists of words that were put out there."""
        return {port: list(self._outs[port]) for port in self._outs}

    def peek(self, frame, place):
        """The word at a place of a frame."""
        check_cell(self._frames, frame, place)
        return self._frames[frame][place]

    def poke(self, frame, place, word):
        """Gives a place of a frame another word."""
        check_cell(self._frames, frame, place)
        if not self._meaning.is_word(word):
            raise BadMachine("frames")
        self._frames[frame][place] = word

    def special(self, name):
        """The word of a special."""
        if not is_key_of(name, SPECIALS):
            raise UnknownName(name)
        return self._specials[name]

    def set_special(self, name, word):
        """Gives a special another word, the mode 0 only."""
        if not is_key_of(name, SPECIALS):
            raise UnknownName(name)
        if not self._meaning.is_word(word) or (name == "mode" and word != 0):
            raise BadMachine("specials")
        self._specials[name] = word

    def give(self, port, word):
        """Puts a word at the end of the answers of a port."""
        if not is_key_of(port, self._answers):
            raise UnknownName(port)
        if not self._meaning.is_word(word):
            raise BadMachine("answers")
        self._answers[port].append(word)

    def bare(self, mapping, registers, pc):
        """Carries out a bare step and returns its end."""
        draft = Draft(self, registers, self.answers(), MappingWays(self._meaning, mapping))
        end = carry_instruction(draft, pc, True)
        if end[0] == "done":
            self._frames = draft.frames()
            self._specials = draft.specials()
            self._outs = draft.outs()
            self._answers = draft.left(self.answers())
        return end

    def __eq__(self, other):
        if not isinstance(other, Box) or self._meaning != other._meaning:
            return False
        if self._frames != other._frames or self._specials != other._specials:
            return False
        return self._answers == other._answers and self._outs == other._outs


def box_of(machine):
    """The box that is made of a machine."""
    specials = machine.specials()
    specials["mode"] = 0
    return Box(machine.meaning(), machine.frames(), specials, ready_answers(machine))
