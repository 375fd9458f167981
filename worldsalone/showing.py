"""The start that is built from a branch with the verdict "wrong", and shows it."""

from worldsalone.books import COMMON_CAUSES
from worldsalone.facts import NEXT, PC, ZERO
from worldsalone.machines import SPECIALS, Machine
from worldsalone.meanings import Meaning

TABLE = ("special", "table")
RIGHTS = ("r", "w", "x")
# The pages of the addresses 0, pc and the next one; those of other addresses follow.
PC_PAGE = 1
NEXT_PAGE = 2
FIRST_FREE_PAGE = 3


def meet_terms(facts):
    """Lets all terms be met, apart from those with primitives, whose words stand in a start."""
    setting = facts.setting()
    met = [("operand", i) for i in range(setting.operands())]
    met.extend([(word, name) for word in ("special", "box") for name in SPECIALS])
    met.extend([("cell", cell) for cell in range(facts.known())])
    for who in ("box", "world"):
        many = setting.in_rows(who)
        met.extend([("answer", who, port, k) for port in many for k in range(many[port])])
    for term in met:
        facts.class_of(term)


def free_words(words, taken):
    """The ascending list of those words, of so many, that are not taken."""
    return [word for word in range(words) if word not in taken]


class Plan:
    """Where the addresses and cells of a branch lie, and which words its terms have, in a start.

    Terms that are not equal have different words. Each address that was asked about lies on a page of
    its own, apart from 0 and the next address.
    """

    def __init__(self, facts):
        meet_terms(facts)
        self._facts = facts
        self._zero = facts.class_of(ZERO)
        self._pc = facts.class_of(PC)
        self._next = facts.class_of(NEXT)
        # The place 0 is that of the cell at the address 0, so here the next address lies on the page of the pc.
        self._pc_is_first = facts.cell_told(ZERO) == 0
        own = (self._zero, self._pc, self._next)
        asked = [entry[0] for entry in facts.rights() + facts.reached()]
        self._addresses = [told for told in sorted(set(asked)) if told not in own]
        # The last page is that of the pc where the next address is 0.
        self._pages = FIRST_FREE_PAGE + len(self._addresses) + 1
        many = max(len(facts.classes()), len(COMMON_CAUSES) + len(facts.setting().book().causes()))
        self._places = self._pages
        while self._places * self._pages < many:
            self._places += 1
        self._words = self._words_of_classes()

    def pages(self):
        """The number of pages."""
        return self._pages

    def places(self):
        """The number of places of a page."""
        return self._places

    def word(self, term):
        """The word of a term that was met."""
        return self._words[self._facts.class_of(term)]

    def tables(self):
        """The tables of the primitives."""
        found = {}
        for name, args, told in self._facts.prims():
            table = found.setdefault(name, {})
            table[tuple([self._words[arg] for arg in args])] = self._words[told]
        return found

    def cells(self):
        """The dict from the known cells to the pairs (frame, place) where they lie."""
        frames = [frame for frame in range(self._facts.known() + 1) if frame != self.word(TABLE)]
        found = {cell: (frames[cell], self._place_of(cell)) for cell in range(self._facts.known())}
        if self._pc_is_first and self._next_cell() is not None:
            found[self._next_cell()] = (frames[0], self._place_of(self._next_cell()))
        return found

    def entries(self):
        """The entries of the pages, each that of the word with the number of the page."""
        cells = self.cells()
        frames = {self._page(told): cells[cell][0] for told, cell in self._facts.reached()}
        letters = {self._page(self._pc): ["x"]}
        for told, right, answer in self._facts.rights():
            if answer == "yes":
                letters.setdefault(self._page(told), []).append(right)
        found = {}
        for page in letters:
            rights = "".join([right for right in RIGHTS if right in letters[page]])
            # To which cell an address comes is not told where nothing asks for it.
            found[page] = (frames.get(page, cells[0][0]), "all", rights)
        return found

    def _page(self, told):
        """The page of the word of a class."""
        return self._words[told] // self._places

    def _next_cell(self):
        """The cell to which the next address comes, or None."""
        return self._facts.cell_told(NEXT)

    def _place_of(self, cell):
        """The place of a cell, or of an address that comes to no cell."""
        if self._pc_is_first:
            return 1 if cell is not None and cell == self._next_cell() else 0
        return self._places - 1 if cell == 0 else 0

    def _words_of_pc(self):
        """The pair of the words of the pc and of the next address."""
        if self._pc == self._zero:
            return (0, 1)
        if self._next == self._zero:
            return (self._places * self._pages - 1, 0)
        first = PC_PAGE * self._places
        return (first, first + 1) if self._pc_is_first else (NEXT_PAGE * self._places - 1, NEXT_PAGE * self._places)

    def _words_of_classes(self):
        """The dict from the classes to their words."""
        pc, behind = self._words_of_pc()
        found = {self._zero: 0, self._pc: pc, self._next: behind}
        cells = {told: cell for told, cell in self._facts.reached()}
        for k, told in enumerate(self._addresses):
            found[told] = (FIRST_FREE_PAGE + k) * self._places + self._place_of(cells.get(told, None))
        # The table is first, so that its word, which is the number of a frame, is small where it can be.
        others = [self._facts.class_of(TABLE)] + self._facts.classes()
        free = free_words(self._places * self._pages, sorted(found.values()))
        for told in others:
            if told not in found:
                found[told] = free[0]
                free = free[1:]
        return found


def frames_of(plan):
    """The frames of a start: those in which cells lie, and that of the table."""
    cells = plan.cells()
    table = plan.word(TABLE)
    many = max([table] + [cells[cell][0] for cell in cells]) + 1
    frames = [[0] * plan.places() for _ in range(many)]
    for cell in cells:
        frame, place = cells[cell]
        frames[frame][place] = plan.word(("cell", cell))
    frames[table] = list(range(plan.places()))
    return frames


def registers_of(facts, plan):
    """The pair of the registers that the operands tell, and of the words of all registers."""
    told = tuple(facts.registers_told())
    least = sorted(set(told))
    words = [0] * facts.setting().book().registers()
    for k, operand in enumerate(least):
        words[k] = plan.word(("operand", operand))
    return (tuple([least.index(operand) for operand in told]), words)


def answers_of(facts, plan, who):
    """The dict from the ports to the words of the answers of "box" or "world", one for each in row."""
    many = facts.setting().in_rows(who)
    return {port: [plan.word(("answer", who, port, k)) for k in range(many[port])] for port in many}


def specials_of(plan, word):
    """The dict from the specials, whose terms begin with a word, to their words."""
    return {name: plan.word((word, name)) for name in SPECIALS}


def start_at(facts):
    """A start that follows the branch with these facts, at which the verdict is "wrong"."""
    plan = Plan(facts)
    setting = facts.setting()
    told, registers = registers_of(facts, plan)
    code = {plan.word(("cell", 0)): (setting.instruction(), told)}
    meaning = Meaning(setting.book(), plan.places(), plan.pages(), plan.tables(), plan.entries(), code)
    given = answers_of(facts, plan, "world")
    answers = {port: [(0, word) for word in given[port]] for port in given}
    outs = {port: [] for port in given}
    specials = specials_of(plan, "special")
    machine = Machine(meaning, frames_of(plan), registers, plan.word(PC), specials, False, (), outs, answers, [], 0)
    return (meaning, machine, specials_of(plan, "box"), answers_of(facts, plan, "box"))
