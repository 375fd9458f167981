"""What the answers of a branch tell."""

from worldsalone.classes import Classes
from worldsalone.terms import Setting

ZERO = ("zero",)
PC = ("pc",)
NEXT = ("next",)
WORLD_MODE = ("special", "mode")
BOX_MODE = ("box", "mode")

YES_AND_NO = ("yes", "no")
TOUCHES = ("r", "w")
# The number of members of a question, by its first one.
QUESTION_LENGTHS = {"same": 3, "equal": 3, "allowed": 3, "cell": 2}


def longer_ways(way, k, registers):
    """The ways that add operand k to a way: it tells a register of the way, or the next one if there is one."""
    used = len({way[other] for other in way})
    return [{**way, k: told} for told in range(min(registers, used + 1))]


def is_as_told(way, sames):
    """Whether a way is as answers (i, j, is_same) say, as far as it has the operands."""
    return all([(way[i] == way[j]) == is_same for i, j, is_same in sames if i in way and j in way])


def can_be_told(registers, sames):
    """Whether operands can tell so many registers as answers (i, j, is_same) say."""
    # Each way is a dict from operands to the numbers of their registers, in the order in which they come.
    ways = [{}]
    for k in sorted({told for i, j, _ in sames for told in (i, j)}):
        longer = [added for way in ways for added in longer_ways(way, k, registers)]
        ways = [way for way in longer if is_as_told(way, sames)]
    return ways != []


def has_question_form(thing):
    """Whether a thing is a question as far as its first member and the number of its members tell."""
    if not isinstance(thing, tuple) or len(thing) == 0 or not isinstance(thing[0], str):
        return False
    return thing[0] in QUESTION_LENGTHS and len(thing) == QUESTION_LENGTHS[thing[0]]


class Facts:
    """What is known of all starts that follow a branch."""

    def __init__(self, setting):
        self._setting = setting
        self._classes = Classes()
        self._known = 1
        self._sames = []
        self._rights = []
        pc = self._classes.number(PC)
        zero = self._classes.number(ZERO)
        world_mode = self._classes.number(WORLD_MODE)
        self._unlike = [(pc, self._classes.number(NEXT))]
        self._reached = [(pc, 0)]
        self._classes.join(self._classes.number(BOX_MODE), zero)
        if setting.is_user():
            self._classes.join(world_mode, zero)
        else:
            self._unlike.append((world_mode, zero))

    def note(self, question, answer):
        """Notes an answer of a question that stands."""
        kind = question[0]
        if kind == "same":
            self._note_same(question[1], question[2], answer == "yes")
        elif kind == "equal":
            self._note_equal(self._classes.number(question[1]), self._classes.number(question[2]), answer == "yes")
        elif kind == "allowed":
            self._rights.append((self._classes.number(question[1]), question[2], answer))
        else:
            self._note_cell(self._classes.number(question[1]), answer)

    def _note_same(self, i, j, is_same):
        """Notes whether two operands tell the same register."""
        self._sames.append((i, j, is_same))
        if is_same:
            self._classes.join(self._classes.number(("operand", i)), self._classes.number(("operand", j)))

    def _note_equal(self, one, other, is_equal):
        """Notes whether terms with these numbers stand for the same word."""
        if is_equal:
            self._classes.join(one, other)
        else:
            self._unlike.append((one, other))

    def _note_cell(self, number, answer):
        """Notes to which cell a term with this number comes."""
        self._reached.append((number, self._known if answer == "further" else answer))
        if answer == "further":
            self._known += 1

    def compared(self, term, other):
        """The word "equal" or "unlike" for two terms, or None if they are neither."""
        pair = sorted([self._class_of(term), self._class_of(other)])
        if pair[0] == pair[1]:
            return "equal"
        unlike = [sorted([self._classes.class_of(number) for number in told]) for told in self._unlike]
        return "unlike" if pair in unlike else None

    def rights_told(self, term, right):
        """The list of the answers that were given whether an address equal to a term is allowed a right."""
        told = self._class_of(term)
        given = [(number, answer) for number, letter, answer in self._rights if letter == right]
        return [answer for number, answer in given if self._classes.class_of(number) == told]

    def cells_told(self, term):
        """The list of the cells to which an address equal to a term comes, as was told."""
        told = self._class_of(term)
        return [cell for number, cell in self._reached if self._classes.class_of(number) == told]

    def is_impossible(self):
        """Whether no start follows the branch, for one of the reasons that count."""
        if any([self._classes.is_equal(one, other) for one, other in self._unlike]):
            return True
        if not can_be_told(self._setting.registers(), self._sames):
            return True
        if self._has_two_answers() or 0 in self.cells_told(NEXT):
            return True
        return 0 in self.cells_told(ZERO) and self._tells_pages_apart()

    def stands(self, thing):
        """Whether a thing is a question that stands at the branch."""
        if not has_question_form(thing) or self.is_impossible():
            return False
        kind = thing[0]
        if kind == "same":
            are_operands = self._setting.has_operand(thing[1]) and self._setting.has_operand(thing[2])
            return are_operands and thing[1] < thing[2]
        if not self._setting.may_occur(thing[1], self._known):
            return False
        if kind == "equal":
            return self._setting.may_occur(thing[2], self._known)
        if kind == "allowed":
            return thing[2] in TOUCHES
        return any(["yes" in self.rights_told(thing[1], right) for right in TOUCHES])

    def answers(self, question):
        """The list of the answers of a question that stands, in order."""
        if question[0] == "cell":
            return list(range(self._known)) + ["further"]
        return list(YES_AND_NO)

    def _class_of(self, term):
        """What is the same just for equal terms."""
        return self._classes.class_of(self._classes.number(term))

    def _has_two_answers(self):
        """Whether equal terms are told different rights or different cells."""
        rights = {}
        for number, right, answer in self._rights:
            if rights.setdefault((self._classes.class_of(number), right), answer) != answer:
                return True
        cells = {}
        for number, cell in self._reached:
            if cells.setdefault(self._classes.class_of(number), cell) != cell:
                return True
        return False

    def _tells_pages_apart(self):
        """Whether some right tells that the pc and the next address lie on different pages."""
        for right in TOUCHES:
            here = self.rights_told(PC, right)
            behind = self.rights_told(NEXT, right)
            if here != [] and behind != [] and here[0] != behind[0]:
                return True
        return False


def facts_at(book, name, mode, branch):
    """The facts at a branch for an instruction and a mode."""
    facts = Facts(Setting(book, name, mode))
    for question, answer in branch:
        facts.note(question, answer)
    return facts
