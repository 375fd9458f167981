"""Case papers: S6.7, and the interface of worldsalone/papers.py."""

import random
import unittest

from asking import MODES, NEXT, O0, O1, PC, ZERO
from hosts import BOOK as RIGHT_BOOK
from samples import A, B, ODD, T0, one_book
from termmodel import Branch
from worldsalone.books import Book
from worldsalone.deciding import decide, decide_mode
from worldsalone.errors import UnknownName
from worldsalone.mappings import Mapping
from worldsalone.papers import first_wrong, judge_papers
from worldsalone.questions import answers

RIGHT, IMPOSSIBLE = ("right",), ("impossible",)
TRAP = (("trap", "oops"),)
LOAD = one_book((("load", T0, A),), operands=1)
IF = one_book((("if", A, (("move", A, A),), TRAP),), operands=1)
CELLS = ("ask", ("cell", O0), (RIGHT, RIGHT))
LOADED = ("ask", ("allowed", O0, "r"), (CELLS, RIGHT))


def ask(question, *nodes):
    """A node of a paper."""
    return ("ask", question, nodes)


def size(node):
    """The number of nodes of a paper."""
    return 1 + sum(size(inner) for inner in node[2]) if node[0] == "ask" else 1


class Papers(unittest.TestCase):
    def check(self, told, book, paper, modes=MODES):
        for mode in modes:
            self.assertEqual(first_wrong(book, "go", mode, paper), told, mode)


class RightPapers(Papers):
    def test_leaves_alone(self):
        self.check(None, one_book((), operands=1), RIGHT)
        self.check(None, one_book(TRAP, (("load", A, A),), operands=1), RIGHT)
        self.check(((), "leaf"), one_book((), operands=1), IMPOSSIBLE)
        self.check(((), "leaf"), LOAD, RIGHT)
        self.check(((), "leaf"), one_book((("out", "tty", A),)), RIGHT)

    def test_questions_that_are_needed(self):
        self.check(None, LOAD, LOADED)
        self.check(None, IF, ask(("equal", O0, ZERO), RIGHT, RIGHT))

    def test_needless_questions_and_another_order(self):
        self.check(None, LOAD, ask(("allowed", PC, "w"), LOADED, LOADED))
        self.check(None, LOAD, ask(("equal", O0, PC), ask(("allowed", O0, "r"), RIGHT, RIGHT), LOADED))
        self.check(None, LOAD, ask(("allowed", PC, "r"), ask(("cell", PC), LOADED, IMPOSSIBLE), LOADED))
        again = ask(("allowed", O0, "r"), ask(("allowed", O0, "r"), CELLS, IMPOSSIBLE), ask(("allowed", O0, "r"), IMPOSSIBLE, RIGHT))
        self.check(None, LOAD, again)
        late = ask(("cell", O0), ask(("equal", ZERO, PC), RIGHT, RIGHT), RIGHT)
        self.check(None, LOAD, ask(("allowed", O0, "r"), late, RIGHT))

    def test_equal_trees_may_be_one_object(self):
        for question in (("equal", O0, ("special", "was")), ("allowed", ("special", "was"), "w"), ("allowed", O0, "w")):
            self.check(None, LOAD, ask(question, LOADED, LOADED))

    def test_modes(self):
        book = one_book((("get", T0, "mode"), ("if", T0, TRAP, ())), operands=1)
        self.check(None, book, RIGHT, ["user"])
        self.check(((), "leaf"), book, RIGHT, ["system"])
        split = one_book(TRAP, (), operands=1)
        self.check(None, split, RIGHT)


class WrongPapers(Papers):
    def test_the_form(self):
        odd = [thing for thing in ODD] + ["right", ["right"], ("right", ()), ("Right",), ("wrong",), ("open",), ("done",), (RIGHT,)]
        odd += [("ask", ("equal", O0, ZERO)), ("ask", ("equal", O0, ZERO), [RIGHT, RIGHT]), ("ask", ("equal", O0, ZERO), RIGHT, RIGHT)]
        odd += [["ask", ("equal", O0, ZERO), (RIGHT, RIGHT)], ("ASK", ("equal", O0, ZERO), (RIGHT, RIGHT)), (None, None, ())]
        odd += [("ask", None, None), ("ask",), 7, 10 ** 39, {"ask": 1}, Mapping(), LOAD, (LOAD,), (("ask",), O0, ()), ("same", 0, 1)]
        for thing in odd:
            self.check(((), "form"), LOAD, thing)
            self.check(((1,), "form"), LOAD, ("ask", ("allowed", O0, "r"), (CELLS, thing)))
            deep = ask(("allowed", O0, "r"), ask(("cell", O0), RIGHT, ask(("equal", O0, PC), IMPOSSIBLE, thing)), RIGHT)
            self.check(((0, 1, 1), "form"), LOAD, deep)

    def test_the_form_is_ahead_of_the_question_and_of_inner_nodes(self):
        self.check(((), "question"), LOAD, ("ask", None, ()))
        self.check(((), "question"), LOAD, ("ask", None, (None, None)))
        self.check(((), "form"), LOAD, ("ask", None, [None]))

    def test_the_question(self):
        for question in ODD + (("cell", O0), ("same", 0, 1), ("equal", O0, O1), ("allowed", O0, "x"), ["equal", O0, ZERO], RIGHT):
            self.check(((), "question"), LOAD, ask(question, RIGHT, RIGHT))
            self.check(((1,), "question"), LOAD, ask(("allowed", O0, "r"), CELLS, ask(question, RIGHT, RIGHT)))

    def test_no_question_stands_behind_an_impossible_branch(self):
        node = ask(("equal", PC, ZERO), IMPOSSIBLE, IMPOSSIBLE)
        self.check(((0,), "question"), LOAD, ask(("equal", PC, NEXT), node, LOADED))
        self.check(None, LOAD, ask(("equal", PC, NEXT), IMPOSSIBLE, LOADED))

    def test_the_answers(self):
        for many in (0, 1, 3, 4):
            self.check(((), "answers"), LOAD, ask(("allowed", O0, "r"), *[None] * many))
            self.check(((0,), "answers"), LOAD, ask(("allowed", O0, "r"), ask(("cell", O0), *[RIGHT] * many), RIGHT))

    def test_the_answers_of_a_cell_are_more_where_more_cells_are_known(self):
        def paper(*nodes):
            return ask(("allowed", O0, "r"), ask(("cell", O0), RIGHT, ask(("cell", O0), *nodes)), RIGHT)

        self.check(None, LOAD, paper(IMPOSSIBLE, RIGHT, IMPOSSIBLE))
        self.check(((0, 1), "answers"), LOAD, paper(IMPOSSIBLE, RIGHT))
        self.check(((0, 1), "answers"), LOAD, paper(IMPOSSIBLE, RIGHT, IMPOSSIBLE, IMPOSSIBLE))
        self.check(((0, 1, 0), "leaf"), LOAD, paper(RIGHT, RIGHT, IMPOSSIBLE))
        self.check(((0, 1, 2), "leaf"), LOAD, paper(IMPOSSIBLE, RIGHT, RIGHT))

    def test_the_leaves(self):
        self.check(((0,), "leaf"), LOAD, ask(("allowed", O0, "r"), RIGHT, RIGHT))
        self.check(((0,), "leaf"), LOAD, ask(("allowed", O0, "r"), IMPOSSIBLE, RIGHT))
        self.check(((1,), "leaf"), LOAD, ask(("allowed", O0, "r"), CELLS, IMPOSSIBLE))
        self.check(((0, 1), "leaf"), LOAD, ask(("allowed", O0, "r"), ask(("cell", O0), RIGHT, IMPOSSIBLE), RIGHT))
        self.check(((0,), "leaf"), LOAD, ask(("equal", PC, NEXT), RIGHT, LOADED))
        # Neither word is that of a branch with the verdict "wrong".
        wrong = one_book((), TRAP, operands=1)
        for leaf in (RIGHT, IMPOSSIBLE):
            self.check(((), "leaf"), wrong, leaf, ["system"])
            self.check(((1,), "leaf"), wrong, ask(("equal", PC, NEXT), IMPOSSIBLE, leaf), ["system"])

    def test_the_first_of_several_wrong_nodes(self):
        self.check(((), "answers"), LOAD, ask(("allowed", O0, "r"), None, ("ask", None, ()), RIGHT))
        self.check(((0,), "form"), LOAD, ask(("allowed", O0, "r"), None, None))
        self.check(((0, 0), "leaf"), LOAD, ask(("allowed", O0, "r"), ask(("cell", O0), IMPOSSIBLE, None), None))
        self.check(((0, 1), "form"), LOAD, ask(("allowed", O0, "r"), ask(("cell", O0), RIGHT, None), None))
        self.check(((0,), "question"), LOAD, ask(("allowed", O0, "r"), ask(("cell", PC), None, None), IMPOSSIBLE))
        self.check(((1,), "form"), LOAD, ask(("allowed", O0, "r"), CELLS, None))

    def test_names_are_refused_first(self):
        for name in ODD + ("nope", "inc", ("go",), 0):
            for paper in (None, RIGHT):
                with self.assertRaises(UnknownName, msg=name) as caught:
                    first_wrong(LOAD, name, "user", paper)
                self.assertIs(caught.exception.name, name)


class Limits(Papers):
    def test_papers_200_deep(self):
        question = ("equal", O0, ("special", "was"))
        for leaf, told in ((LOADED, None), (RIGHT, "leaf"), (None, "form"), (ask(None), "question")):
            paper = leaf
            for k in range(197):
                # Only where it is asked first the other answer is possible.
                paper = ask(question, paper, LOADED if k == 196 else IMPOSSIBLE)
            self.check(told and ((0,) * 197, told), LOAD, paper)
        deep = one_book((), operands=0)
        paper = RIGHT
        for _ in range(200):
            paper = ask(("allowed", PC, "r"), paper, IMPOSSIBLE)
        self.check(((1,), "leaf"), deep, paper)
        paper = RIGHT
        for k in range(200):
            paper = ask(("allowed", PC, "r"), paper, IMPOSSIBLE if k < 199 else RIGHT)
        self.check(None, deep, paper)

    def test_papers_of_20000_nodes(self):
        book = one_book((), operands=0)
        names = ("table", "handler", "enabled", "timer", "cause", "back", "was", "fault")
        questions = [("allowed", ("special", name), right) for name in names[:7] for right in ("r", "w")][:13]
        paper = RIGHT
        for question in questions:
            paper = ask(question, paper, paper)
        self.assertGreater(size(paper), 16000)
        self.check(None, book, paper, ["system"])
        spoiled = ask(questions[-1], paper[2][0], ask(questions[-2], paper[2][0][2][0], IMPOSSIBLE))
        self.check(((1, 1), "leaf"), book, spoiled, ["system"])

    def test_deep_questions(self):
        deep = O0
        for _ in range(57):
            deep = ("prim", "inc", (deep,))
        book = one_book((), operands=1)
        self.check(None, book, ask(("equal", deep, ZERO), ask(("equal", deep, ZERO), RIGHT, IMPOSSIBLE), RIGHT))
        odd = None
        for _ in range(60):
            odd = (odd,)
        for paper in (odd, ask(odd, RIGHT), ask(("equal", odd, ZERO), RIGHT, RIGHT), ask(("equal", deep, odd), RIGHT, RIGHT)):
            self.check(((), "form" if paper is odd else "question"), book, paper)


class JudgePapers(unittest.TestCase):
    BOOK = Book(1, [], ["oops"], [], [("one", 1, (("load", A, A),), (("load", A, A),)), ("two", 0, TRAP, ())])
    NAMES = [("one", "user"), ("one", "system"), ("two", "user"), ("two", "system")]

    def papers(self, **told):
        """The right papers, with these members in place of others."""
        one = ask(("allowed", O0, "r"), ask(("cell", O0), RIGHT, RIGHT), RIGHT)
        found = [(name, mode, one if name == "one" else RIGHT) for name, mode in self.NAMES]
        for key, thing in told.items():
            found[int(key[1:])] = thing
        return found

    def check(self, told, papers):
        self.assertEqual(judge_papers(self.BOOK, papers), told)

    def test_right_papers_as_lists_and_tuples(self):
        papers = self.papers()
        self.check(None, papers)
        self.check(None, tuple(papers))
        self.check(None, decide(self.BOOK)[1])
        self.assertIsNone(judge_papers(Book(1, [], [], [], []), []))
        self.assertEqual(judge_papers(Book(1, [], [], [], []), None), (0, (), "form"))

    def test_too_few_and_too_many(self):
        for papers in ([], self.papers()[:3], self.papers()[1:], self.papers() + [("two", "system", RIGHT)], (), tuple(self.papers()[:1])):
            self.check((4, (), "form"), papers)

    def test_neither_a_list_nor_a_tuple(self):
        for thing in ODD + ("abcd", 4, {k: entry for k, entry in enumerate(self.papers())}, Mapping(), self.BOOK):
            self.check((4, (), "form"), thing)

    def test_members_of_other_kinds(self):
        for k, (name, mode) in enumerate(self.NAMES):
            paper = self.papers()[k][2]
            odd = list(ODD) + [paper, [name, mode, paper], (name, mode), (name, mode, paper, ()), (mode, name, paper)]
            odd += [("three", mode, paper), (name, "User", paper), (name, "", paper), ((name,), mode, paper), (None, mode, paper)]
            odd += [("two" if name == "one" else "one", mode, paper), (name, "system" if mode == "user" else "user", paper)]
            for thing in odd:
                self.check((k, (), "form"), self.papers(**{f"k{k}": thing}))

    def test_papers_that_are_not_right(self):
        self.check((0, (), "leaf"), self.papers(k0=("one", "user", RIGHT)))
        self.check((1, (), "form"), self.papers(k1=("one", "system", None)))
        bad = ask(("allowed", O0, "r"), ask(("cell", O0), RIGHT), RIGHT)
        self.check((1, (0,), "answers"), self.papers(k1=("one", "system", bad)))
        self.check((2, (), "question"), self.papers(k2=("two", "user", ask(("same", 0, 1), RIGHT, RIGHT))))
        self.check((3, (1,), "leaf"), self.papers(k3=("two", "system", ask(("allowed", PC, "r"), RIGHT, IMPOSSIBLE))))

    def test_the_first_one_is_told(self):
        self.check((1, (), "form"), self.papers(k1=None, k2=None))
        self.check((0, (0,), "form"), self.papers(k0=("one", "user", ask(("allowed", O0, "r"), None, None)), k2=None))

    def test_papers_that_were_told(self):
        papers = decide(Book(4, [("inc", 1)], ["help", "oops"], ["tty", "net"], [
            entry for entry in RIGHT_BOOK.instructions() if entry[0] not in ("bad", "wild")]))
        self.assertEqual(papers[0], "right")

    def test_nothing_changes(self):
        papers = self.papers()
        kept = list(papers)
        judge_papers(self.BOOK, papers)
        self.assertEqual(papers, kept)


class Drawn(Papers):
    def grown(self, draw, book, mode, branch, depth):
        """A right paper with needless questions, put together by verdicts that the tests tell."""
        model = Branch(book, "go", mode, branch)
        told, question = model.judged()
        if told != "open" and (depth > 4 or told == "impossible" or draw.random() < 0.7):
            self.assertIn(told, ("right", "impossible"))
            return (told,)
        if told != "open" or (draw.random() < 0.2 and depth < 4):
            question = draw.choice((("equal", O0, PC), ("allowed", O1, "w"), ("equal", ("cell", 0), ZERO), ("same", 0, 1)))
        nodes = []
        for answer in answers(book, "go", mode, branch, question):
            nodes.append(self.grown(draw, book, mode, branch + [(question, answer)], depth + 1))
        return ("ask", question, tuple(nodes))

    def spoiled(self, draw, paper, path):
        """A paper with something wrong at a path, and the word for it."""
        if path:
            inner, word = self.spoiled(draw, paper[2][path[0]], path[1:])
            nodes = paper[2][:path[0]] + (inner,) + paper[2][path[0] + 1:]
            return ("ask", paper[1], nodes), word
        if paper[0] != "ask":
            kinds = [(RIGHT if paper == IMPOSSIBLE else IMPOSSIBLE, "leaf"), ((paper[0], 0), "form"), (None, "form")]
            return draw.choice(kinds)
        kinds = [(("ask", paper[1], paper[2][:-1]), "answers"), (("ask", ("same", 1, 0), paper[2]), "question")]
        kinds += [(("ask", paper[1], list(paper[2])), "form"), (("ask", paper[1], paper[2] + (RIGHT,)), "answers")]
        return draw.choice(kinds)

    def test_grown_papers_are_right_and_spoiled_ones_are_not(self):
        books = [one_book((("load", T0, A), ("store", B, T0)), operands=2), one_book((("if", A, (("goto", B),), TRAP),), operands=2)]
        for seed in range(60):
            draw = random.Random(seed)
            book, mode = draw.choice(books), draw.choice(MODES)
            paper = self.grown(draw, book, mode, [], 0)
            self.check(None, book, paper, [mode])
            path, node = (), paper
            while node[0] == "ask" and draw.random() < 0.8:
                k = draw.randrange(len(node[2]))
                path, node = path + (k,), node[2][k]
            wrong, word = self.spoiled(draw, paper, path)
            self.check((path, word), book, wrong, [mode])

    def test_papers_of_one_mode_for_another_one(self):
        book = one_book((("load", T0, A),), (("load", T0, A), ("get", T0, "was"), ("put", "was", T0)), operands=1)
        for mode in MODES:
            word, paper = decide_mode(book, "go", mode)
            self.assertEqual(word, "right")
            self.check(None, book, paper)


if __name__ == "__main__":
    unittest.main()
