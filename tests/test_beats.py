"""Points 2, 3, 20 and 21: oncewire.beats."""

import unittest

from oncewire.beats import beats
from oncewire.books import Book
from oncewire.errors import NoDef, NotShown, TooLong
from oncewire.meaning import meaning
from oncewire.runs import Run
from oncewire.shapes import is_shown
from oncewire.texts import read_program

from chances import programs
from samples import chance, odd_things

PROGRAM = read_program("""
(= n (z) (s n)) (= t (leaf) (node t t))
(@ add (> n (> n n)) (^ a n (^ c n (? a (z : c) (s m : (# s (! (! @add m) c)))))))
(@ two n (# s (# s (# z))))
(@ four n (! (! @add @two) @two))
(@ fours (* n (* n n)) (& @four (& @four @four)))
(@ ever n (# s @ever))
(@ grow t (# node @grow @grow))
(@ itself n @itself)
""")
BOOK = Book(PROGRAM)
TIGHT = Book(PROGRAM, tight=True)


class Beats(unittest.TestCase):

    def test_by_hand(self):
        self.assertEqual(beats(BOOK, "two"), (1, 1))
        # four opens; add and both twos open; a call is done, then the second one and the choice; and so on.
        self.assertEqual(beats(BOOK, "four")[1], sum(meaning(PROGRAM, "four")[1].values()))
        many, steps = beats(BOOK, "four")
        self.assertEqual(beats(BOOK, "fours"), (many + 1, 3 * steps + 1))
        self.assertEqual(beats(book=BOOK, f="four", hands=None, most=2000), (many, steps))

    def test_one_hand(self):
        for f in ("two", "four", "fours"):
            for book in (BOOK, TIGHT):
                steps = beats(book, f)[1]
                self.assertEqual(beats(book, f, hands=1), (steps, steps))

    def test_some_hands(self):
        for f in ("four", "fours"):
            for book in (BOOK, TIGHT):
                rows = [beats(book, f, hands=hands) for hands in (1, 2, 3, 5, 100, None)]
                for hands, row in zip((1, 2, 3, 5, 100, None), rows):
                    run, told = Run(book, f), 0
                    while run.moves_now():
                        run.beat(hands=hands)
                        told += 1
                    self.assertEqual(row, (told, run.steps()))
                self.assertEqual(rows[4], rows[5])
                self.assertEqual(rows[5][0], run.greatest())

    def test_most(self):
        for f in ("two", "four", "fours"):
            for hands in (None, 1, 2, 3, 100):
                for book in (BOOK, TIGHT):
                    told = beats(book, f, hands=hands)
                    self.assertEqual(beats(book, f, hands=hands, most=told[1]), told)
                    for most in (told[1] - 1, 0, -5):
                        with self.assertRaises(TooLong):
                            beats(book, f, hands=hands, most=most)

    def test_no_end(self):
        for f in ("ever", "grow", "itself"):
            for hands in (None, 1, 2, 100):
                for book in (BOOK, TIGHT):
                    with self.assertRaises(TooLong):
                        beats(book, f, hands=hands)
                    with self.assertRaises(TooLong):
                        beats(book, f, hands=hands, most=70)

    def test_refused_in_their_order(self):
        for thing in odd_things() + ["n", "z", "q", ("two",), ("def", "two")]:
            with self.assertRaises(NoDef):
                beats(BOOK, thing)
            with self.assertRaises(NoDef):
                beats(BOOK, thing, most=-1, hands=1)
        with self.assertRaises(NotShown):
            beats(BOOK, "add", most=-1)
        with self.assertRaises(TypeError):
            beats(BOOK, "two", 3)

    def test_between_the_bounds(self):
        luck = chance(66)
        ended = 0
        for program in programs(luck, 60, wide=50, deep=10, wild=0.05):
            for book in (Book(program), Book(program, tight=True)):
                for f, kind, _ in program[1]:
                    if not is_shown(kind):
                        continue
                    try:
                        most, steps = beats(book, f, most=600)
                    except TooLong:
                        with self.assertRaises(TooLong):
                            beats(book, f, most=600, hands=luck.randrange(1, 101))
                        continue
                    run = Run(book, f)
                    run.go([luck.randrange(10 ** 6) for _ in range(steps)])
                    self.assertEqual((run.greatest(), run.steps()), (most, steps))
                    for hands in (1, 2, 3, 4, 7, 100):
                        many, told = beats(book, f, hands=hands)
                        self.assertEqual(told, steps)
                        self.assertGreaterEqual(many, max(most, -(-steps // hands)))
                        self.assertLessEqual(many, most + (steps - most) // hands)
                    ended += 1
        self.assertGreater(ended, 100)


if __name__ == "__main__":
    unittest.main()
