"""Points 2 and 23: oncewire.back."""

import unittest

from oncewire.back import is_ended, shown
from oncewire.books import Book
from oncewire.meaning import meaning
from oncewire.nets import Net
from oncewire.runs import Run, started
from oncewire.shapes import is_shown
from oncewire.texts import read_program

from chances import programs
from samples import chance
from worths import Endless, read_worth, reckoned

PROGRAM = read_program("""
(= n (z) (s n)) (= l (nil) (cons n l)) (= t (leaf) (node t n t))
(@ add (> n (> n n)) (^ a n (^ c n (? a (z : c) (s m : (# s (! (! @add m) c)))))))
(@ two n (# s (# s (# z))))
(@ both (* l (* n t)) (& (# cons @two (# nil)) (& (! (! @add @two) @two) (# node (# leaf) @two (# leaf)))))
(@ ever n (# s @ever))
""")
BOOK = Book(PROGRAM)
Z, LEAF, NIL = ("#", "z", ()), ("#", "leaf", ()), ("#", "nil", ())
TWO = ("#", "s", (("#", "s", (Z,)),))


def hand(rows, ties):
    net = Net()
    for row in rows:
        net.put(row, BOOK.lower(row))
    for one, other in ties:
        net.tie(one, other)
    return net


class Shown(unittest.TestCase):

    def check(self, net, worth, ended=False):
        kept = net.copy()
        self.assertEqual(shown(net), worth)
        self.assertIs(is_ended(net), ended)
        self.assertEqual(net, kept)

    def test_not_shown_yet(self):
        self.check(started(BOOK, "both"), None)
        self.check(started(BOOK, "two"), None)
        self.check(hand([("out", "n")], []), None)
        self.check(hand([("out", "n"), ("call", "n", "n")], [((0, 0), (1, 2))]), None)
        self.check(hand([("out", "n"), ("make", "s")], [((0, 0), (1, 1))]), None)
        self.check(hand([("out", (">", "n", "n")), ("fun", "n", "n")], [((0, 0), (1, 0)), ((1, 1), (1, 2))]), None)

    def test_in_part(self):
        self.check(hand([("out", "n"), ("make", "s")], [((1, 0), (0, 0))]), ("#", "s", (None,)))
        self.check(hand([("out", "n"), ("make", "s"), ("def", "two")], [((1, 0), (0, 0)), ((2, 0), (1, 1))]), ("#", "s", (None,)))
        self.check(hand([("make", "node"), ("make", "leaf"), ("make", "s"), ("out", "t")], [((3, 0), (0, 0)), ((0, 3), (1, 0)), ((0, 2), (2, 0))]),
                   ("#", "node", (None, ("#", "s", (None,)), LEAF)))
        run = Run(BOOK, "both")
        told = []
        while not told or told[-1] != shown(run.net_now()):
            told.append(shown(run.net_now()))
            run.beat()
        # out, then what is opened at once, then what is behind one def.
        self.assertIsNone(told[0])
        self.assertEqual(told[1], ("&", ("#", "cons", (None, NIL)), ("&", None, ("#", "node", (LEAF, None, LEAF)))))
        self.assertEqual(told[2], ("&", ("#", "cons", (TWO, NIL)), ("&", None, ("#", "node", (LEAF, TWO, LEAF)))))

    def test_wholly(self):
        self.check(hand([("out", "n"), ("make", "z")], [((0, 0), (1, 0))]), Z, True)
        self.check(hand([("make", "z"), ("out", "n"), ("make", "s")], [((1, 0), (2, 0)), ((2, 1), (0, 0))]), ("#", "s", (Z,)), True)
        net = hand([("out", ("*", "n", "l")), ("pair", "n", "l"), ("make", "nil"), ("make", "z")], [((0, 0), (1, 0)), ((1, 1), (3, 0)), ((1, 2), (2, 0))])
        self.check(net, ("&", Z, NIL), True)
        # Pairs within makers can't be, but makers within pairs within pairs.
        run = Run(BOOK, "both")
        self.assertIs(run.go(), True)
        self.assertEqual(shown(run.net_now()), meaning(PROGRAM, "both")[0])
        self.assertIs(is_ended(run.net_now()), True)

    def test_an_agent_too_many(self):
        net = hand([("out", "n"), ("make", "z"), ("drop", "n")], [((0, 0), (1, 0))])
        self.check(net, Z)
        net.take_away(2)
        self.check(net, Z, True)
        # Two that wait for one another.
        rows = [("out", "n"), ("make", "z"), ("call", "n", "n"), ("call", "n", "n")]
        self.check(hand(rows, [((0, 0), (1, 0)), ((2, 0), (3, 2)), ((2, 2), (3, 0)), ((2, 1), (3, 1))]), Z)
        self.check(hand(rows[:3], [((0, 0), (1, 0)), ((2, 0), (2, 2))]), Z)

    def test_a_move_left(self):
        rows = [("out", "n"), ("make", "z"), ("make", "z"), ("drop", "n")]
        self.check(hand(rows, [((0, 0), (1, 0)), ((2, 0), (3, 0))]), Z)
        self.check(hand([("out", "n"), ("make", "z"), ("def", "two")], [((0, 0), (1, 0))]), Z)
        run = Run(BOOK, "both")
        while run.moves_now():
            self.assertIs(is_ended(run.net_now()), False)
            run.do(run.moves_now()[-1])
        self.assertIs(is_ended(run.net_now()), True)

    def test_without_out(self):
        self.assertIs(is_ended(Net()), False)
        self.assertIs(is_ended(hand([("drop", "n")], [])), False)
        self.assertIsNone(shown(hand([("make", "z")], [])))

    def test_sixty_within_one_another(self):
        run = Run(BOOK, "ever")
        for many in range(60):
            worth = None
            for _ in range(many):
                worth = ("#", "s", (worth,))
            self.assertEqual(shown(run.net_now()), worth)
            self.assertIs(is_ended(run.net_now()), False)
            run.go(most=1)
        # Farther nothing is promised, but it comes to an end.
        run.go()
        self.assertEqual(shown(run.net_now())[:2], ("#", "s"))

    def test_runs_by_chance(self):
        luck = chance(67)
        ended = 0
        for program in programs(luck, 40, wide=50, deep=10):
            for book in (Book(program), Book(program, tight=True)):
                for f in [f for f, kind, _ in program[1] if is_shown(kind)]:
                    try:
                        worth, _ = reckoned(program, f, 400)
                    except Endless:
                        continue
                    run = Run(book, f)
                    while run.moves_now():
                        self.assertTrue(agrees(shown(run.net_now()), worth))
                        self.assertIs(is_ended(run.net_now()), False)
                        run.do(luck.choice(run.moves_now()))
                    self.assertEqual(shown(run.net_now()), worth)
                    self.assertEqual(read_worth(run.net_now())[0], worth)
                    self.assertIs(is_ended(run.net_now()), True)
                    ended += 1
        self.assertGreater(ended, 80)


def agrees(part, worth):
    """Whether a worth is this one as far as it is shown."""
    if part is None:
        return True
    if part[0] == "&":
        return worth[0] == "&" and all(map(agrees, part[1:], worth[1:]))
    return part[:2] == worth[:2] and len(part[2]) == len(worth[2]) and all(map(agrees, part[2], worth[2]))


if __name__ == "__main__":
    unittest.main()
