"""Texts: S1.4, S1.5, S1.6, and the examples of the interface."""

import unittest

from samples import A, ODD, T0, assert_new
from worldsalone.books import Book
from worldsalone.errors import BadText
from worldsalone.meanings import Meaning
from worldsalone.texts import book_text, read_book, read_words, words_text

RICH = """registers 3
primitive zero 0
primitive inc 1
primitive sum 2
cause oops
cause help
port tty
port net
instruction all 2
user
move o0 t1
prim t0 zero
prim t3 inc o1
prim o0 sum o1 t0
load o0 t2
store t0 o1
goto o0
get o0 mode
put fault o0
in t0 tty
out net o0
trap oops
system
instruction none 0
user
system
instruction rev 12
user
if o11
if t0
else
trap help
end
goto o10
else
end
move t0 t0
system
if t1
else
if t2
goto t3
else
end
end""".split("\n")

ALL = (
    ("move", ("op", 0), ("tmp", 1)), ("prim", ("tmp", 0), "zero", ()), ("prim", ("tmp", 3), "inc", (("op", 1),)),
    ("prim", ("op", 0), "sum", (("op", 1), ("tmp", 0))), ("load", ("op", 0), ("tmp", 2)),
    ("store", ("tmp", 0), ("op", 1)), ("goto", ("op", 0)), ("get", ("op", 0), "mode"), ("put", "fault", ("op", 0)),
    ("in", ("tmp", 0), "tty"), ("out", "net", ("op", 0)), ("trap", "oops"),
)
REV_USER = (
    ("if", ("op", 11), (("if", ("tmp", 0), (), (("trap", "help"),)), ("goto", ("op", 10))), ()),
    ("move", ("tmp", 0), ("tmp", 0)),
)
REV_SYSTEM = (("if", ("tmp", 1), (), (("if", ("tmp", 2), (("goto", ("tmp", 3)),), ()),)),)


def rich_book():
    """The book of the lines above."""
    instructions = [("all", 2, ALL, ()), ("none", 0, (), ()), ("rev", 12, REV_USER, REV_SYSTEM)]
    return Book(3, [("zero", 0), ("inc", 1), ("sum", 2)], ["oops", "help"], ["tty", "net"], instructions)


def text_of(lines):
    """The text that consists of these lines."""
    return "\n".join(lines)


class BookTexts(unittest.TestCase):
    def test_rich_book(self):
        self.assertEqual(book_text(rich_book()), text_of(RICH))
        self.assertEqual(read_book(text_of(RICH)), rich_book())

    def test_smallest_book(self):
        book = Book(1, [], [], [], [])
        self.assertEqual(book_text(book), "registers 1")
        self.assertEqual(read_book("registers 1"), book)

    def test_great_numbers(self):
        great = 10 ** 39
        rows = (("goto", ("op", great - 1)),)
        book = Book(great + 5, [], [], [], [("go", great, rows, ())])
        text = f"registers {great + 5}\ninstruction go {great}\nuser\ngoto o{great - 1}\nsystem"
        self.assertEqual(book_text(book), text)
        self.assertEqual(read_book(text), book)

    def test_names_that_are_words_of_the_text(self):
        names = ["if", "else", "end", "user", "system", "registers", "primitive", "port", "instruction", "word", "o0"]
        rows = tuple([("prim", T0, name, ()) for name in names] + [("trap", name) for name in names])
        rows += tuple([("in", T0, name) for name in names] + [("out", name, T0) for name in names])
        rows += (("if", T0, rows, (("trap", "end"),)),)
        instructions = [(name, 0, rows, rows) for name in names]
        book = Book(1, [(name, 0) for name in names], names, names, instructions)
        text = book_text(book)
        self.assertIn("\nprim t0 else\n", text)
        self.assertIn("\ntrap end\nend\n", text)
        self.assertEqual(read_book(text), book)

    def test_each_sort_of_row(self):
        lines = {
            "move t0 o0": ("move", T0, A), "prim o0 zero": ("prim", A, "zero", ()),
            "prim o0 inc t0": ("prim", A, "inc", (T0,)), "prim o0 sum t0 o0": ("prim", A, "sum", (T0, A)),
            "load o0 t0": ("load", A, T0), "store o0 t0": ("store", A, T0), "goto o0": ("goto", A),
            "get o0 was": ("get", A, "was"), "put back o0": ("put", "back", A), "in o0 tty": ("in", A, "tty"),
            "out tty o0": ("out", "tty", A), "trap oops": ("trap", "oops"),
            "if o0\nelse\nend": ("if", A, (), ()), "if o0\ngoto t0\nelse\nend": ("if", A, (("goto", T0),), ()),
            "if o0\nelse\ngoto t0\nend": ("if", A, (), (("goto", T0),)),
        }
        head = RICH[:8] + ["instruction one 1", "user"]
        for line, row in lines.items():
            for text, entry in (
                (head + [line, "system"], ("one", 1, (row,), ())),
                (head + ["system", line], ("one", 1, (), (row,))),
            ):
                book = Book(3, rich_book().primitives(), ["oops", "help"], ["tty", "net"], [entry])
                self.assertEqual(book_text(book), text_of(text))
                self.assertEqual(read_book(text_of(text)), book)


class RefusedBookTexts(unittest.TestCase):
    def refuse(self, lines, place):
        with self.assertRaises(BadText, msg=f"{lines}") as caught:
            read_book(text_of(lines))
        self.assertEqual(caught.exception.place, place, lines)

    def refuse_line(self, before, lines):
        """Each of the lines is refused behind those before it, whatever follows."""
        for line in lines:
            self.refuse(before + [line], len(before))
            self.refuse(before + [line, "", "x"], len(before))
            self.refuse(before + [line] + RICH, len(before))

    def refuse_row(self, lines):
        """Each of the lines is refused among the rows of an instruction with two operands."""
        self.refuse_line(RICH[:10], lines)
        self.refuse_line(RICH[:10] + ["goto o0"], lines)
        self.refuse_line(RICH[:10] + ["goto o0", "system"], lines)
        self.refuse_line(RICH[:10] + ["if o0"], lines)
        self.refuse_line(RICH[:10] + ["if o0", "else", "if t0", "else", "goto t0"], lines)

    def test_empty_text(self):
        self.refuse([""], 0)
        self.refuse(["", ""], 0)

    def test_every_beginning(self):
        for many in range(1, len(RICH)):
            told = RICH[:many]
            opened = many > 8 and (many < 23 or many in (24, 25) or 26 < many < 38 or 38 < many)
            if opened:
                self.refuse(told, many)
            else:
                self.assertEqual(book_text(read_book(text_of(told))), text_of(told))

    def test_every_line_out(self):
        places = {0: 0, 1: 10, 2: 11, 3: 12, 4: 20, 5: 30, 6: 18, 7: 19}
        for line, place in places.items():
            self.refuse(RICH[:line] + RICH[line + 1:], place)
        for line in (8, 9, 23, 24, 26, 27):
            self.refuse(RICH[:line] + RICH[line + 1:], line)

    def test_every_line_with_blanks_or_more_members(self):
        for k, line in enumerate(RICH):
            wrong = [line + " ", " " + line, line + "x" * 13, line + " x", line + " 0", line + "\t", "\t" + line]
            wrong += [line + "\r", line.upper(), "", " ", line + " " + line, line + "-", line + "#"]
            if " " in line:
                wrong += [line.replace(" ", "  ", 1), line.replace(" ", "", 1), line.replace(" ", "\t", 1)]
                wrong += [line[:line.rfind(" ")], line.replace(" ", "\n", 1), line.split(" ")[0]]
            for other in wrong:
                self.refuse(RICH[:k] + [other] + RICH[k + 1:], k)

    def test_additional_lines(self):
        for k in range(len(RICH) + 1):
            for line in ("", "x", "registers 3 3", "move o0", "user x", "END", "move o0  t0", "0"):
                self.refuse(RICH[:k] + [line] + RICH[k:], k)

    def test_doubled_lines(self):
        for k in range(10):
            self.refuse(RICH[:k + 1] + RICH[k:], k + 1)
        for k in (22, 24, 25, 34, 37, 39):
            self.refuse(RICH[:k + 1] + RICH[k:], k + 1)

    def test_line_feeds_at_the_end(self):
        self.refuse(RICH + [""], len(RICH))
        self.refuse(RICH + ["", ""], len(RICH))
        self.refuse(["registers 2", ""], 1)
        self.refuse(["registers 2", "instruction a 0", "user", ""], 3)

    def test_registers(self):
        lines = ["registers 0", "registers 01", "registers -1", "registers +1", "registers", "registers x", "register 1"]
        lines += ["registers 1 1", "registers  1", "1", "registers 1_0", "registers one", "Registers 1", "primitive a 0"]
        lines += ["registers 1.0", "registers 0x1", "registers r1", "instruction a 0", "registers 00"]
        self.refuse_line([], lines)

    def test_primitives(self):
        lines = ["primitive zero 1", "primitive new 3", "primitive new 00", "primitive new 01", "primitive new -1"]
        lines += ["primitive new", "primitive new 1 1", "primitive New 1", "primitive 1a 1", "primitive abcdefghijklm 1"]
        lines += ["primitive", "primitives new 1", "primitive new x", "primitive 1 new", "primitive a_b 1", "registers 3"]
        self.refuse_line(RICH[:2], lines)

    def test_causes(self):
        lines = ["cause page", "cause code", "cause line", "cause timer", "cause oops", "cause", "cause a b", "cause A"]
        self.refuse_line(RICH[:5], lines + ["cause 4", "primitive new 0", "registers 3", "causes new"])

    def test_ports(self):
        lines = ["port tty", "port", "port a b", "port A", "port 1", "cause new", "primitive new 0", "ports new"]
        self.refuse_line(RICH[:7], lines + ["port abcdefghijklm", "user", "move o0 o0"])

    def test_instructions(self):
        lines = ["instruction", "instruction new", "instruction new x", "instruction new 00", "instruction new 01"]
        lines += ["instruction new -1", "instruction new 0 0", "instruction New 0", "instruction abcdefghijklm 0"]
        lines += ["cause new", "primitive new 0", "user", "system", "else", "end", "instructions new 0"]
        self.refuse_line(RICH[:8], lines)
        self.refuse_line(RICH[:26], lines + ["instruction all 0", "instruction none 1", "port new"])

    def test_heads_of_rows(self):
        self.refuse_line(RICH[:9], ["system", "goto o0", "user 0", "users", "else", "end", "", "instruction b 0", "user user"])
        self.refuse_line(RICH[:10], ["user", "else", "end", "instruction b 0", "port x", "systems", "system 0"])
        self.refuse_line(RICH[:10] + ["system"], ["user", "system", "else", "end", "port x", "instruction b"])

    def test_ifs(self):
        first, second = RICH[:10] + ["if o0"], RICH[:10] + ["if o0", "goto o0", "else"]
        self.refuse_line(first, ["end", "system", "user", "instruction b 0", "else 0", "elses", "else else"])
        self.refuse_line(second, ["else", "system", "user", "instruction b 0", "end 0", "ends", "end end"])
        self.refuse_line(second + ["end"], ["end", "else", "user", "instruction b 0"])
        self.refuse_line(first + ["if o1", "else", "end"], ["end", "system"])
        self.refuse_line(second + ["if o1", "else", "end"], ["else", "system"])
        self.refuse_line(RICH[:10] + ["system", "if o0"], ["end", "instruction b 0", "system"])
        self.refuse_line(RICH[:10] + ["system", "if o0", "else"], ["else", "instruction b 0", "system"])

    def test_refs(self):
        wrong = ["o2", "o00", "o01", "o-1", "o", "t4", "t00", "t10", "t", "x0", "0", "oo0", "O0", "T0", "o0x", "op0", "-", "o+1"]
        wrong += ["tmp0", "t 0", "o\t0", "o0,", "t0.", "99", "o99999999999999999999999999999999999999999"]
        for ref in wrong:
            lines = ["move R o0", "move o0 R", "prim R zero", "prim o0 inc R", "prim o0 sum R o0", "prim o0 sum o0 R"]
            lines += ["load R o0", "load o0 R", "store R o0", "store o0 R", "goto R", "get R mode", "put mode R"]
            lines += ["in R tty", "out tty R", "if R"]
            self.refuse_row([line.replace("R", ref) for line in lines])

    def test_names_in_rows(self):
        lines = ["prim o0 other", "prim o0 tty", "prim o0 zero o0", "prim o0 inc", "prim o0 inc o0 o0", "prim o0 sum o0"]
        lines += ["prim o0 sum o0 o0 o0", "prim zero o0", "prim o0", "prim", "get o0 pc", "get mode o0", "get o0"]
        lines += ["put o0 mode", "put pc o0", "put mode", "in o0 other", "in tty o0", "in o0", "out o0 tty", "out other o0"]
        lines += ["out tty", "trap page", "trap code", "trap line", "trap timer", "trap other", "trap tty", "trap", "trap o0"]
        lines += ["trap oops oops", "move o0", "move o0 o0 o0", "load o0", "store o0 o0 o0", "goto", "goto o0 o0", "if"]
        lines += ["if o0 o0", "moves o0 o0", "op 0", "o0", "Move o0 o0", "get o0 mode mode", "put mode o0 o0"]
        self.refuse_row(lines)

    def test_too_many_open_ifs(self):
        lines = RICH[:10] + ["if t0"] * 900
        self.refuse(lines, len(lines))
        self.refuse(lines + ["end"], len(lines))


class WordTexts(unittest.TestCase):
    def setUp(self):
        instructions = [("add", 2, (), ()), ("word", 1, (), ()), ("nop", 0, (), ()), ("r0", 0, (), ()), ("words", 2, (), ())]
        book = Book(12, [], [], [], instructions)
        code = {
            1: ("add", (0, 11)), 4: ("word", (0,)), 5: ("add", (0, 11)), 7: ("nop", ()), 8: ("r0", ()), 9: ("nop", ()),
            11: ("add", (11, 0)), 13: ("word", (10,)), 2: ("words", (3, 3)),
        }
        self.meaning = Meaning(book, 5, 3, {}, {0: (0, "all", "r")}, code)

    def refuse(self, text, place):
        with self.assertRaises(BadText, msg=text) as caught:
            read_words(self.meaning, text)
        self.assertEqual(caught.exception.place, place)

    def test_all_words(self):
        lines = ["word 0", "add r0 r11", "words r3 r3", "word 3", "word r0", "word 5", "word 6", "nop", "r0", "word 9"]
        lines += ["word 10", "add r11 r0", "word 12", "word r10", "word 14"]
        self.assertEqual(words_text(self.meaning, list(range(15))), text_of(lines))
        self.assertEqual(words_text(self.meaning, tuple(range(15))), text_of(lines))
        self.assertEqual(read_words(self.meaning, text_of(lines)), list(range(15)))

    def test_words_told_in_any_way(self):
        text = "word 5\nadd r0 r11\nword 1\nword 7\nnop\nword 9\nword 14\nword r0\nword 4\nword 0"
        self.assertEqual(read_words(self.meaning, text), [5, 1, 1, 7, 7, 9, 14, 4, 4, 0])

    def test_few_words(self):
        self.assertEqual(words_text(self.meaning, []), "")
        self.assertEqual(words_text(self.meaning, ()), "")
        self.assertEqual(read_words(self.meaning, ""), [])
        self.assertEqual(words_text(self.meaning, [9]), "word 9")
        self.assertEqual(words_text(self.meaning, [7, 7]), "nop\nnop")
        self.assertEqual(read_words(self.meaning, "nop"), [7])

    def test_instruction_called_word_without_operands(self):
        book = Book(1, [], [], [], [("word", 0, (), ())])
        meaning = Meaning(book, 4, 1, {}, {}, {2: ("word", ()), 3: ("word", ())})
        self.assertEqual(words_text(meaning, [1, 2, 3]), "word 1\nword\nword 3")
        self.assertEqual(read_words(meaning, "word\nword 3\nword 2"), [2, 3, 2])

    def test_refused_lines(self):
        lines = ["word 15", "word 00", "word 01", "word -1", "word", "word x", "word 1 1", "word  1", " word 1", "word 1 "]
        lines += ["", "nop ", " nop", "nop r0", "nop 0", "add", "add r0", "add r0 r10", "add r0 r11 r0", "add r0 11"]
        lines += ["add r0  r11", "add r00 r11", "add r0 r011", "add 0 11", "add o0 o11", "add r0 r12", "add r r11", "other"]
        lines += ["Word 1", "NOP", "word r1", "word r00", "word r", "word 1r", "r1", "words 3", "word 0x1", "add r0\tr11", "7"]
        lines += ["word r0 r0", "add r-1 r0", "word\t1", "word 99999999999999999999999999999999999999"]
        for line in lines:
            self.refuse("nop\nword 0\n" + line, 2)
            self.refuse("nop\n" + line + "\n\nx", 1)
            if line != "":
                self.refuse(line, 0)

    def test_empty_lines(self):
        self.refuse("\n", 0)
        self.refuse("nop\n", 1)
        self.refuse("\nnop", 0)
        self.refuse("nop\n\nnop", 1)

    def test_lists_are_new(self):
        assert_new(self, lambda: read_words(self.meaning, "nop"))
        assert_new(self, lambda: read_words(self.meaning, ""))


class Examples(unittest.TestCase):
    def test_as_they_are_printed(self):
        rows = (("if", ("op", 0), (("prim", ("op", 0), "dec", (("op", 0),)),), (("trap", "done"),)),)
        small = Book(2, [("dec", 1)], ["done"], [], [("down", 1, rows, ())])
        text = "registers 2\nprimitive dec 1\ncause done\ninstruction down 1\nuser\nif o0\nprim o0 dec o0\nelse\ntrap done"
        self.assertEqual(book_text(small), text + "\nend\nsystem")
        self.assertEqual((read_book(book_text(small)) == small, small.cause_number("done")), (True, 4))
        code = {3: ("down", (1,)), 5: ("down", (1,))}
        told = Meaning(small, 3, 2, {"dec": {(2,): 1}}, {4: (1, "all", "rx")}, code)
        self.assertEqual(words_text(told, [3, 5, 0]), "down r1\nword 5\nword 0")
        self.assertEqual(read_words(told, "down r1\nword 3"), [3, 3])
        self.assertEqual(told.words_of("down", (1,)), [3, 5])
        self.assertEqual((told.apply("dec", (2,)), told.apply("dec", (1,))), (1, 0))
        self.assertEqual((told.page(4), told.place(4), told.next(5), told.entry(4)), (1, 1, 0, (1, "all", "rx")))


if __name__ == "__main__":
    unittest.main()
