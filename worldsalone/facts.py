"""What the answers of a branch tell."""

from worldsalone.classes import Classes
from worldsalone.errors import BadPaper
from worldsalone.kinds import is_index, is_key_of, is_list, is_tuple_of
from worldsalone.registers import can_be_told
from worldsalone.terms import Setting

ZERO = ("zero",)
PC = ("pc",)
NEXT = ("next",)
WORLD_MODE = ("special", "mode")
BOX_MODE = ("box", "mode")

YES_AND_NO = ("yes", "no")
FURTHER = "further"
TOUCHES = ("r", "w")
# The number of members of a question, by its first one.
QUESTION_LENGTHS = {"same": 3, "equal": 3, "allowed": 3, "cell": 2}


def has_question_form(thing):
    """Whether a thing is a question as far as its first member and the number of its members tell."""
    if not isinstance(thing, tuple) or len(thing) == 0 or not isinstance(thing[0], str):
        return False
    return thing[0] in QUESTION_LENGTHS and len(thing) == QUESTION_LENGTHS[thing[0]]


class Facts:
    """What is known of all starts that follow a branch."""

    def __init__(self, setting):
        self._setting = setting
        self._classes = Classes()
        self._known = 1
        self._sames = []
        self._rights = []
        pc = self._classes.number(PC)
        zero = self._classes.number(ZERO)
        world_mode = self._classes.number(WORLD_MODE)
        self._unlike = [(pc, self._classes.number(NEXT))]
        self._reached = [(pc, 0)]
        self._classes.join(self._classes.number(BOX_MODE), zero)
        if setting.is_user():
            self._classes.join(world_mode, zero)
        else:
            self._unlike.append((world_mode, zero))
        # None until it is asked for: terms that are met later change nothing of it, answers do.
        self._no_start = None

    def noted(self, question, answer):
        """The facts at the branch that goes on with an answer of a question that stands."""
        other = Facts(self._setting)
        other._classes = self._classes.twin()
        other._known = self._known
        other._sames = list(self._sames)
        other._rights = list(self._rights)
        other._unlike = list(self._unlike)
        other._reached = list(self._reached)
        other.note(question, answer)
        return other

    def note(self, question, answer):
        """Notes an answer of a question that stands."""
        kind = question[0]
        self._no_start = None
        if kind == "same":
            self._note_same(question[1], question[2], answer == "yes")
        elif kind == "equal":
            self._note_equal(self._classes.number(question[1]), self._classes.number(question[2]), answer == "yes")
        elif kind == "allowed":
            add_new(self._rights, (self._classes.number(question[1]), question[2], answer))
        else:
            self._note_cell(self._classes.number(question[1]), answer)

    def _note_same(self, i, j, is_same):
        """Notes whether two operands tell the same register."""
        add_new(self._sames, (i, j, is_same))
        if is_same:
            self._classes.join(self._classes.number(("operand", i)), self._classes.number(("operand", j)))

    def _note_equal(self, one, other, is_equal):
        """Notes whether terms with these numbers stand for the same word."""
        if is_equal:
            self._classes.join(one, other)
        else:
            add_new(self._unlike, (one, other))

    def _note_cell(self, number, answer):
        """Notes to which cell a term with this number comes."""
        add_new(self._reached, (number, self._known if answer == FURTHER else answer))
        if answer == FURTHER:
            self._known += 1

    def setting(self):
        """The instruction and the mode."""
        return self._setting

    def known(self):
        """The number of known cells."""
        return self._known

    def unasked_same(self):
        """The first question ("same", i, j) of the operands that was not answered, or None."""
        asked = [(i, j) for i, j, _ in self._sames]
        for j in range(self._setting.operands()):
            for i in range(j):
                if (i, j) not in asked:
                    return ("same", i, j)
        return None

    def registers_told(self):
        """For each operand, the least one that tells the same register; all questions about this were answered."""
        least = []
        for operand in range(self._setting.operands()):
            alike = [i for i, j, is_same in self._sames if j == operand and is_same]
            least.append(min(alike + [operand]))
        return least

    def compared(self, term, other):
        """The word "equal" or "unlike" for two terms, or None if they are neither."""
        pair = (self.class_of(term), self.class_of(other))
        if pair[0] == pair[1]:
            return "equal"
        for one, two in self._unlike:
            told = (self._classes.class_of(one), self._classes.class_of(two))
            if told == pair or told == (pair[1], pair[0]):
                return "unlike"
        return None

    def right_told(self, term, right):
        """The answer that was given whether an address equal to a term is allowed a right, or None."""
        told = self.class_of(term)
        for number, letter, answer in self._rights:
            if letter == right and self._classes.class_of(number) == told:
                return answer
        return None

    def cell_told(self, term):
        """The cell to which an address equal to a term comes, or None if that was not told."""
        told = self.class_of(term)
        for number, cell in self._reached:
            if self._classes.class_of(number) == told:
                return cell
        return None

    def is_impossible(self):
        """Whether no start follows the branch, for one of the reasons that count."""
        if self._no_start is None:
            self._no_start = self._has_no_start()
        return self._no_start

    def _has_no_start(self):
        """As is_impossible, found anew."""
        if any([self._classes.is_equal(one, other) for one, other in self._unlike]):
            return True
        if not can_be_told(self._setting.book().registers(), self._sames):
            return True
        if self._has_two_answers() or self.cell_told(NEXT) == 0:
            return True
        return self.cell_told(ZERO) == 0 and self._tells_pages_apart()

    def stands(self, thing):
        """Whether a thing is a question that stands at the branch."""
        if not has_question_form(thing) or self.is_impossible():
            return False
        kind = thing[0]
        if kind == "same":
            are_operands = self._setting.has_operand(thing[1]) and self._setting.has_operand(thing[2])
            return are_operands and thing[1] < thing[2]
        if not self._setting.may_occur(thing[1], self._known):
            return False
        if kind == "equal":
            return self._setting.may_occur(thing[2], self._known)
        if kind == "allowed":
            return is_key_of(thing[2], TOUCHES)
        return "yes" in [self.right_told(thing[1], right) for right in TOUCHES]

    def answers(self, question):
        """The list of the answers of a question that stands, in order."""
        if question[0] == "cell":
            return list(range(self._known)) + [FURTHER]
        return list(YES_AND_NO)

    def has_answer(self, question, thing):
        """Whether a thing is one of the answers of a question that stands."""
        if question[0] == "cell":
            return is_index(thing, self._known) or is_key_of(thing, (FURTHER,))
        return is_key_of(thing, YES_AND_NO)

    def class_of(self, term):
        """What is the same just for equal terms; a term that was not met before is met now."""
        return self._classes.class_of(self._classes.number(term))

    def classes(self):
        """The ascending list of the classes of the terms that were met."""
        return self._classes.all_classes()

    def prims(self):
        """The list of the tuples (name, classes of the arguments, class) of the primitives that were met."""
        return self._classes.all_prims()

    def rights(self):
        """The list of the tuples (class, right, answer) of what was told about addresses."""
        return [(self._classes.class_of(number), right, answer) for number, right, answer in self._rights]

    def reached(self):
        """The list of the pairs (class, cell) of what was told about addresses."""
        return [(self._classes.class_of(number), cell) for number, cell in self._reached]

    def _has_two_answers(self):
        """Whether equal terms are told different rights or different cells."""
        rights = {}
        for told, right, answer in self.rights():
            if rights.setdefault((told, right), answer) != answer:
                return True
        cells = {}
        for told, cell in self.reached():
            if cells.setdefault(told, cell) != cell:
                return True
        return False

    def _tells_pages_apart(self):
        """Whether some right tells that the pc and the next address lie on different pages."""
        for right in TOUCHES:
            told = [self.right_told(PC, right), self.right_told(NEXT, right)]
            if None not in told and told[0] != told[1]:
                return True
        return False


def add_new(told, entry):
    """Puts an entry at the end of a list, unless it is there."""
    if entry not in told:
        told.append(entry)


def facts_at(book, name, mode, branch):
    """The facts at a branch for an instruction and a mode."""
    facts = Facts(Setting(book, name, mode))
    for question, answer in branch:
        facts.note(question, answer)
    return facts


def facts_at_any(book, name, mode, branch):
    """As facts_at, for a branch that may be anything and is refused if it is none."""
    facts = Facts(Setting(book, name, mode))
    if not is_list(branch):
        raise BadPaper()
    for pair in branch:
        if not is_tuple_of(pair, 2) or not facts.stands(pair[0]) or not facts.has_answer(pair[0], pair[1]):
            raise BadPaper()
        facts.note(pair[0], pair[1])
    return facts
