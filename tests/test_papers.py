"""Points 2, 3 and 24: oncewire.papers."""

import hashlib
import time
import unittest

from oncewire.back import shown
from oncewire.books import Book
from oncewire.errors import NoRun
from oncewire.meaning import meaning
from oncewire.nets import alike
from oncewire.papers import is_paired, is_run, joined, paired
from oncewire.runs import Run
from oncewire.shapes import is_shown
from oncewire.texts import read_program

from chances import programs
from samples import chance, odd_things
from worths import Endless, reckoned

PROGRAM = read_program("""
(= n (z) (s n)) (= b (no) (yes)) (= t (leaf) (node t n t))
(@ add (> n (> n n)) (^ a n (^ c n (? a (z : c) (s m : (# s (! (! @add m) c)))))))
(@ two n (# s (# s (# z))))
(@ four n (! (! @add @two) @two))
(@ same n (! (! @add @two) @two))
(@ both (* n n) (+ @two x y (& (! (! @add x) (# z)) y)))
(@ pick b (/ (& (# z) @two) x y (- x (? y (z : (# no)) (s m : (- m (# yes)))))))
(@ whole (* n (* b n)) (& @four (& @pick @two)))
(@ bush t (# node (# node (# leaf) @four (# leaf)) @two (# leaf)))
(@ ever t (# node @ever @two @ever))
""")
BOOK = Book(PROGRAM)
TIGHT = Book(PROGRAM, tight=True)
ENDED = ("two", "four", "both", "pick", "whole", "bush")


def paper(book, f, luck, most=2000):
    """A log by chance, a paper where it is long enough."""
    run = Run(book, f)
    way = luck.randrange(4)
    run.go([[luck.randrange(10 ** 6), 0, -1, luck.randrange(3)][way] for _ in range(min(most, 600))], most=most)
    return run.done()


def named(book, f, log):
    """A log's moves by names that hang on no numbers: an agent's is that of the move that made it, and which of those it is."""
    run = Run(book, f)
    names = {0: "out", 1: "def"}
    told = []
    before = {0, 1}
    for move in log:
        run.do(move)
        name = "+".join(sorted(names[n] for n in move))
        told.append(name)
        short = hashlib.sha256(name.encode()).hexdigest()[:20]
        after = run.net_now().numbers()
        for at, n in enumerate(n for n in after if n not in before):
            names[n] = f"{short}.{at}"
        before = set(after)
    return told


def spoilt(luck, log):
    """A log with something otherwise in it."""
    rows = list(log)
    at = luck.randrange(len(rows))
    way = luck.randrange(9)
    if way == 0:
        del rows[at]
    elif way == 1:
        rows.insert(at, rows[at])
    elif way == 2:
        other = luck.randrange(len(rows))
        rows[at], rows[other] = rows[other], rows[at]
    elif way == 3:
        rows[at] = rows[at][::-1]
    elif way == 4:
        rows[at] = tuple(n + luck.choice([-1, 1]) for n in rows[at])
    elif way == 5:
        rows[at] = list(rows[at])
    elif way == 6:
        rows[at] = luck.choice([None, (), (0,), (True,), (None,), 5, "x", rows[at] + rows[at], ([1],)])
    elif way == 7:
        rows = rows[:at]
    else:
        rows.append(luck.choice(rows + [(0,), (0, 2)]))
    return rows


def is_log(book, f, rows):
    """Whether these can be done, and whether no move is left; by the runs' own refusals."""
    run = Run(book, f)
    for move in rows:
        if move not in run.moves_now() or type(move) is not tuple or any(type(n) is not int for n in move):
            return False, False
        run.do(move)
    return True, not run.moves_now()


class IsRun(unittest.TestCase):

    def test_papers_by_many_orders(self):
        luck = chance(81)
        for book in (BOOK, TIGHT):
            for f in ENDED:
                worth = meaning(PROGRAM, f)[0]
                for _ in range(6):
                    rows = paper(book, f, luck)
                    kept = list(rows)
                    self.assertIs(is_run(book, f, rows, worth), True)
                    self.assertIs(is_run(book=book, f=f, thing=rows, worth=worth), True)
                    self.assertEqual(rows, kept)
                    self.assertIs(is_run(book, f, tuple(rows), worth), False)

    def test_by_hand(self):
        two = ("#", "s", (("#", "s", (("#", "z", ()),)),))
        self.assertIs(is_run(BOOK, "two", [(1,)], two), True)
        for rows in ([], [(1,), (1,)], [(0,)], [(0, 1)], [(True,)], [[1]], [1], ((1,),), {0: (1,)}, [(1,), (2,)], [(2,)], [("1",)], [(1, 1)], [((1,),)]):
            self.assertIs(is_run(BOOK, "two", rows, two), False)

    def test_spoilt(self):
        luck = chance(82)
        good = 0
        for book in (BOOK, TIGHT):
            for f in ENDED:
                worth = meaning(PROGRAM, f)[0]
                for _ in range(60):
                    rows = spoilt(luck, paper(book, f, luck))
                    told = is_run(book, f, rows, worth)
                    self.assertIs(told, is_log(book, f, rows)[1])
                    good += told
        # Two moves that don't hang on one another may be exchanged, if their agents have the same numbers.
        self.assertGreater(good, 0)

    def test_of_another_def(self):
        luck = chance(83)
        rows = paper(BOOK, "four", luck)
        worth = meaning(PROGRAM, "four")[0]
        self.assertIs(is_run(BOOK, "same", rows, worth), True)
        self.assertIs(is_run(BOOK, "two", rows, worth), False)
        self.assertIs(is_run(BOOK, "whole", rows, worth), False)
        self.assertIs(is_run(BOOK, "ever", rows, worth), False)

    def test_of_the_other_book(self):
        luck = chance(84)
        program = read_program("(= n (z) (s n)) (@ f n (! (^ x n (# s x)) (# z)))")
        plain, tight = Book(program), Book(program, tight=True)
        rows, less = paper(plain, "f", luck), paper(tight, "f", luck)
        worth = meaning(program, "f")[0]
        self.assertEqual((len(rows), len(less)), (2, 1))
        self.assertEqual([is_run(book, "f", log, worth) for book in (plain, tight) for log in (rows, less)], [True, False, False, True])

    def test_of_another_worth(self):
        luck = chance(85)
        rows = paper(BOOK, "both", luck)
        worth = meaning(PROGRAM, "both")[0]
        two = worth[2]
        for thing in [two, None, ("&", two, None), ("&", None, None), ["&", two, two], ("&", two, two, two), ("&", two), ("*", two, two), ("&", two, ("#", "s", (two,))),
                      ("&", two, ("#", "s", [("#", "s", (("#", "z", ()),))])), True, False, 0, "(& (# s (# s (# z))) (# s (# s (# z))))"]:
            self.assertIs(is_run(BOOK, "both", rows, thing), False)
        for thing in odd_things():
            self.assertIs(is_run(BOOK, "both", rows, thing), False)
            self.assertIs(is_run(BOOK, "both", thing, worth), False)
            self.assertIs(is_run(BOOK, "both", thing, thing), False)
            self.assertIs(is_run(BOOK, "both", [thing], worth), False)
        self.assertIs(is_run(BOOK, "both", [], None), False)

    def test_not_ended(self):
        luck = chance(86)
        for most in (0, 1, 50):
            rows = paper(BOOK, "ever", luck, most)
            self.assertIs(is_run(BOOK, "ever", rows, None), False)
            run = Run(BOOK, "ever")
            for move in rows:
                run.do(move)
            self.assertIs(is_run(BOOK, "ever", rows, shown(run.net_now())), False)


class Paired(unittest.TestCase):

    def test_beside_names(self):
        luck = chance(87)
        for book in (BOOK, TIGHT):
            for f in ENDED:
                for _ in range(8):
                    one, other = paper(book, f, luck), paper(book, f, luck)
                    kept = list(one), list(other)
                    told = paired(book, f, one, other)
                    mine, theirs = named(book, f, one), named(book, f, other)
                    self.assertEqual(told, [theirs.index(name) for name in mine])
                    self.assertIs(is_paired(book, f, one, other, told), True)
                    about = paired(book=book, f=f, one=other, other=one)
                    self.assertEqual([told[at] for at in about], list(range(len(one))))
                    self.assertIs(is_paired(book, f, other, one, about), True)
                    self.assertIs(is_paired(book, f, other, one, told), told == about)
                    self.assertEqual(paired(book, f, one, one), list(range(len(one))))
                    self.assertEqual((one, other), kept)

    def test_by_chance(self):
        luck = chance(88)
        ended = 0
        for program in programs(luck, 40, wide=50, deep=10):
            for book in (Book(program), Book(program, tight=True)):
                for f in [f for f, kind, _ in program[1] if is_shown(kind)]:
                    try:
                        worth, _ = reckoned(program, f, 300)
                    except Endless:
                        continue
                    one, other = paper(book, f, luck), paper(book, f, luck)
                    self.assertIs(is_run(book, f, one, worth), True)
                    self.assertEqual(paired(book, f, one, other), [named(book, f, other).index(name) for name in named(book, f, one)])
                    ended += 1
        self.assertGreater(ended, 60)

    def test_one_number_otherwise(self):
        luck = chance(89)
        for f in ENDED:
            one, other = paper(BOOK, f, luck), paper(BOOK, f, luck)
            told = paired(BOOK, f, one, other)
            for at in range(len(told)):
                for number in (told[at] + 1, told[at] - 1, -1, len(told), None, str(told[at]), [told[at]], 10 ** 39):
                    self.assertIs(is_paired(BOOK, f, one, other, told[:at] + [number] + told[at + 1:]), False)
                if told[at] in (0, 1):
                    self.assertIs(is_paired(BOOK, f, one, other, told[:at] + [bool(told[at])] + told[at + 1:]), False)
            for thing in [tuple(told), told[:-1], told + told[-1:], told + [len(told)], {at: n for at, n in enumerate(told)}] + odd_things():
                self.assertIs(is_paired(BOOK, f, one, other, thing), False)
        # Of two moves alone: a def that opens, then a call.
        self.assertIs(is_paired(BOOK, "two", [(1,)], [(1,)], [0]), True)
        self.assertIs(is_paired(BOOK, "two", [(1,)], [(1,)], [False]), False)

    def test_where_either_is_no_paper(self):
        luck = chance(90)
        refused = 0
        for book in (BOOK, TIGHT):
            for f in ENDED:
                good = paper(book, f, luck)
                told = paired(book, f, good, good)
                things = [spoilt(luck, good) for _ in range(20)] + [good[:-1], [], tuple(good), good + good[-1:]]
                for thing in [thing for thing in things if not is_log(book, f, thing)[1] or type(thing) is not list] + odd_things():
                    for pair in ((good, thing), (thing, good), (thing, thing)):
                        with self.assertRaises(NoRun):
                            paired(book, f, *pair)
                        self.assertIs(is_paired(book, f, *pair, told), False)
                    self.assertIs(is_paired(book, f, good, thing, []), False)
                    self.assertIs(is_paired(book, f, thing, thing, []), False)
                    refused += 1
        self.assertGreater(refused, 900)

    def test_new_each_time(self):
        rows = paper(BOOK, "four", chance(91))
        paired(BOOK, "four", rows, rows).clear()
        self.assertEqual(len(paired(BOOK, "four", rows, rows)), len(rows))


class Joined(unittest.TestCase):

    def check(self, book, f, one, other):
        kept = list(one), list(other)
        behind_one, behind_other = joined(book, f, one, other)
        self.assertEqual((one, other), kept)
        mine, theirs = named(book, f, one), named(book, f, other)
        here, there = named(book, f, one + behind_one), named(book, f, other + behind_other)
        # Just the moves that either has are done in both, and just those that each one lacks come behind it.
        self.assertEqual(set(here), set(mine) | set(theirs))
        self.assertEqual(set(there), set(here))
        self.assertEqual((len(here), len(there)), (len(set(here)),) * 2)
        nets = []
        for log in (one + behind_one, other + behind_other):
            run = Run(book, f)
            for move in log:
                run.do(move)
            nets.append(run.net_now())
        self.assertIsNotNone(alike(*nets))
        self.assertEqual(type(behind_one), list)
        self.assertEqual(type(behind_other), list)
        return behind_one, behind_other

    def test_stopped_anywhere(self):
        luck = chance(92)
        for book in (BOOK, TIGHT):
            for f in ENDED + ("ever",):
                for _ in range(12):
                    self.check(book, f, paper(book, f, luck, luck.randrange(40)), paper(book, f, luck, luck.randrange(40)))

    def test_by_chance(self):
        luck = chance(93)
        for program in programs(luck, 40, wide=50, deep=10, wild=0.2):
            for book in (Book(program), Book(program, tight=True)):
                for f in [f for f, kind, _ in program[1] if is_shown(kind)]:
                    self.check(book, f, paper(book, f, luck, luck.randrange(50)), paper(book, f, luck, luck.randrange(50)))

    def test_edges(self):
        luck = chance(94)
        for book in (BOOK, TIGHT):
            for f in ENDED:
                whole = paper(book, f, luck)
                self.assertEqual(self.check(book, f, [], []), ([], []))
                self.assertEqual(self.check(book, f, whole, whole), ([], []))
                self.assertEqual(self.check(book, f, [], whole), (whole, []))
                self.assertEqual(self.check(book, f, whole, []), ([], whole))
                # One a beginning of the other.
                half = whole[:len(whole) // 2]
                self.assertEqual(self.check(book, f, half, whole), (whole[len(half):], []))
                self.assertEqual(self.check(book, f, whole, half), ([], whole[len(half):]))
                self.assertEqual(self.check(book, f, half, half), ([], []))
                other = paper(book, f, luck)
                self.assertEqual(self.check(book, f, whole, other), ([], []))
                behind, none = self.check(book, f, half, other)
                self.assertEqual(none, [])
                self.assertIs(is_run(book, f, half + behind, meaning(PROGRAM, f)[0]), True)

    def test_by_names_of_arguments(self):
        self.assertEqual(joined(book=BOOK, f="two", one=[], other=[(1,)]), ([(1,)], []))

    def test_no_run_of_anything(self):
        luck = chance(95)
        refused = 0
        for book in (BOOK, TIGHT):
            for f in ENDED + ("ever",):
                good = paper(book, f, luck, 20)
                things = [spoilt(luck, good) for _ in range(20)] + [tuple(good), good + good[-1:], [(0,)], {0: (1,)}]
                for thing in [thing for thing in things if not is_log(book, f, thing)[0] or type(thing) is not list] + [x for x in odd_things() if x != []]:
                    for pair in ((good, thing), (thing, good), (thing, thing), ([], thing), (thing, [])):
                        with self.assertRaises(NoRun):
                            joined(book, f, *pair)
                    refused += 1
        self.assertGreater(refused, 900)

    def test_long_ones(self):
        begun = time.process_time()
        luck = chance(96)
        one, other = paper(BOOK, "ever", luck, 2000), paper(BOOK, "ever", luck, 2000)
        behind_one, behind_other = joined(BOOK, "ever", one, other)
        self.assertEqual(len(one) + len(behind_one), len(other) + len(behind_other))
        self.assertLess(time.process_time() - begun, 10)


if __name__ == "__main__":
    unittest.main()
