"""Points 2 and 25: oncewire.lines."""

import unittest

from oncewire.books import Book
from oncewire.errors import NoLine, NoPort, NoSymbol
from oncewire.lines import line_of, net_of
from oncewire.meaning import meaning
from oncewire.nets import Net, alike
from oncewire.runs import Run, started
from oncewire.shapes import is_shown
from oncewire.texts import read_program

from chances import programs
from samples import chance, deep_kind, odd_things
from worths import read_worth

PROGRAM = read_program("""
(= n (z) (s n)) (= b (no) (yes)) (= l (nil) (cons n l))
(@ add (> n (> n n)) (^ a n (^ c n (? a (z : c) (s m : (# s (! (! @add m) c)))))))
(@ two n (# s (# s (# z))))
(@ four n (! (! @add @two) @two))
(@ held (> b (> n (> l (* l n)))) (^ c b (^ a n (^ e l (? c (no : (& e a)) (yes : (& (# cons a e) (# z))))))))
(@ ever n (# s @ever))
(@ both (* n n) (+ @four x y (& x y)))
""")
BOOK = Book(PROGRAM)
TIGHT = Book(PROGRAM, tight=True)


def hand(rows, ties):
    net = Net()
    for row in rows:
        symbol, lower, *at = row if isinstance(row[0], tuple) else (row, BOOK.lower(row))
        net.put(symbol, lower, at=at[0] if at else None)
    for one, other in ties:
        net.tie(one, other)
    return net


def rank(symbol):
    return BOOK.symbols().index(symbol)


def written(book, net):
    """A net's line, by a way of its own."""
    numbers, line = {}, [len(net.numbers())]
    for n in net.numbers():
        for place in range(net.lower_of(n) + 1):
            numbers[(n, place)] = len(numbers)
    for n in net.numbers():
        line.append(list(book.symbols()).index(net.symbol_of(n)))
        line += [numbers[net.end_of((n, place))] for place in range(net.lower_of(n) + 1)]
    return tuple(line)


def is_line(book, line):
    """Whether a thing is a line, by a way of its own."""
    if type(line) is not tuple or not line or any(type(one) is not int for one in line):
        return False
    rows, ends = list(line[1:]), []
    many = 0
    while rows:
        if not 0 <= rows[0] < len(book.symbols()):
            return False
        lower = book.lower(book.symbols()[rows[0]])
        if len(rows) < 2 + lower:
            return False
        ends += rows[1:2 + lower]
        rows = rows[2 + lower:]
        many += 1
    return many == line[0] and all(0 <= end < len(ends) and end != at and ends[end] == at for at, end in enumerate(ends))


class Lines(unittest.TestCase):

    def test_by_hand(self):
        net = started(BOOK, "two")
        self.assertEqual(line_of(BOOK, net), (2, rank(("out", "n")), 1, rank(("def", "two")), 0))
        self.assertEqual(line_of(BOOK, Net()), (0,))
        net = hand([(("make", "s"), 1, 4), (("out", "n"), 0, 9), (("make", "z"), 0, 30)], [((4, 0), (9, 0)), ((4, 1), (30, 0))])
        line = (3, rank(("make", "s")), 2, 3, rank(("out", "n")), 0, rank(("make", "z")), 1)
        self.assertEqual(line_of(book=BOOK, net=net), line)
        other = net_of(book=BOOK, line=line)
        self.assertEqual(other, hand([("make", "s"), ("out", "n"), ("make", "z")], [((0, 0), (1, 0)), ((0, 1), (2, 0))]))
        self.assertEqual(other.put(("x",)), 3)
        self.assertEqual(len(net_of(BOOK, (0,))), 0)

    def test_two_ports_of_one_agent(self):
        net = hand([("make", "cons"), ("drop", "l")], [((0, 1), (0, 2)), ((0, 0), (1, 0))])
        line = (2, rank(("make", "cons")), 3, 2, 1, rank(("drop", "l")), 0)
        self.assertEqual(line_of(BOOK, net), line)
        self.assertEqual(net_of(BOOK, line), net)

    def test_runs_with_numbers_left_out(self):
        luck = chance(101)
        for program in [PROGRAM] + programs(luck, 30, wide=50, deep=10, wild=0.2):
            for book in (Book(program), Book(program, tight=True)):
                for f in [f for f, kind, _ in program[1] if is_shown(kind)]:
                    run = Run(book, f)
                    for _ in range(8):
                        run.go([luck.randrange(99) for _ in range(6)], most=luck.randrange(7))
                        net = run.net_now()
                        kept = net.copy()
                        line = line_of(book, net)
                        self.assertEqual(line, written(book, net))
                        self.assertEqual(net, kept)
                        self.assertIs(is_line(book, line), True)
                        other = net_of(book, line)
                        self.assertEqual(other.numbers(), list(range(len(net))))
                        self.assertEqual(other.put(("x",)), len(net))
                        other.take_away(len(net))
                        self.assertIsNotNone(alike(net, other))
                        self.assertEqual(line_of(book, other), line)
                        # The plain book's row is the tight one's.
                        self.assertEqual(line_of(Book(program, tight=not book.tight), net), line)

    def test_gone_on_with(self):
        for book in (BOOK, TIGHT):
            for f in ("four", "both"):
                worth, counts = meaning(PROGRAM, f)
                for most in range(sum(counts.values())):
                    run = Run(book, f)
                    run.go([7, 3, 9], most=most)
                    other = Run(book, None, net=net_of(book, line_of(book, run.net_now())))
                    self.assertIs(other.go([2, 5]), True)
                    self.assertEqual(read_worth(other.net_now(), (other.net_now().numbers()[0], 0))[0], worth)
                    whole = Run(book, f)
                    whole.go()
                    self.assertEqual(run.steps() + other.steps(), whole.steps())

    def test_no_symbol(self):
        rows = [
            ("x",), ("make", "q"), ("out", "b"), ("out", ("*", "n", "l")), ("fun", "b", "b"), ("call", "l", "l"), ("choose", 9), ("choose", True), ("choose", False),
            ("drop", "q"), ("def", "q"), ("out", deep_kind(7)), ("make",), ("copy", "n", "n"), ("pair", "b", "b"), ("part", "n", "n"),
        ]
        for symbol in rows:
            lower = BOOK.lower(symbol) if BOOK.rules.has(symbol) else 0
            if symbol[0] == "choose" and isinstance(symbol[1], bool):
                # A truth is no number, though Python takes it for one.
                lower = BOOK.lower(("choose", int(symbol[1])))
            for net in (hand([(symbol, lower)], []), hand([("make", "z"), (symbol, lower), ("drop", "n")], [((0, 0), (2, 0))])):
                with self.assertRaises(NoSymbol):
                    line_of(BOOK, net)

    def test_other_lower_ports(self):
        for symbol in BOOK.symbols():
            for lower in range(6):
                net = hand([(symbol, lower)], [])
                # With its own the ports are still untied.
                with self.assertRaises(NoPort if lower == BOOK.lower(symbol) else NoSymbol):
                    line_of(BOOK, net)

    def test_no_symbol_ahead_of_no_port(self):
        net = hand([("make", "s"), (("x",), 0)], [])
        with self.assertRaises(NoSymbol):
            line_of(BOOK, net)
        net.take_away(1)
        with self.assertRaises(NoPort):
            line_of(BOOK, net)

    def test_untied_ports(self):
        ties = [((0, 0), (1, 0)), ((0, 1), (2, 0)), ((0, 2), (3, 0))]
        for at in range(3):
            net = hand([("make", "cons"), ("drop", "l"), ("make", "z"), ("make", "nil")], ties[:at] + ties[at + 1:])
            with self.assertRaises(NoPort):
                line_of(BOOK, net)

    def test_of_another_book(self):
        other = Book(read_program("(= n (z) (s n)) (@ two n (# s (# z)))"))
        run = Run(BOOK, "both")
        run.go(most=6)
        with self.assertRaises(NoSymbol):
            line_of(other, run.net_now())
        with self.assertRaises(NoLine):
            net_of(other, line_of(BOOK, run.net_now()))


class NoLines(unittest.TestCase):

    def refused(self, line):
        for book in (BOOK, TIGHT):
            with self.assertRaises(NoLine):
                net_of(book, line)

    def test_one_number_otherwise(self):
        luck = chance(102)
        good = 0
        for f in ("four", "both", "ever"):
            for most in (0, 1, 4, 9):
                run = Run(BOOK, f)
                run.go([luck.randrange(99) for _ in range(9)], most=most)
                line = line_of(BOOK, run.net_now())
                for at in range(len(line)):
                    for number in {line[at] + 1, line[at] - 1, -1, 0, luck.randrange(len(line)), len(line), 10 ** 39, -10 ** 39}:
                        other = line[:at] + (number,) + line[at + 1:]
                        if is_line(BOOK, other):
                            self.assertEqual(line_of(BOOK, net_of(BOOK, other)), other)
                            good += other != line
                        else:
                            self.refused(other)
                    for thing in (bool(line[at]), None, str(line[at]), (line[at],), [line[at]], {}):
                        self.refused(line[:at] + (thing,) + line[at + 1:])
        # Another symbol of as many ports.
        self.assertGreater(good, 10)

    def test_too_short_and_too_long(self):
        run = Run(BOOK, "both")
        run.go(most=7)
        line = line_of(BOOK, run.net_now())
        for many in range(len(line)):
            self.refused(line[:many])
        for more in ((0,), (0, 0), (rank(("drop", "n")), 0), (rank(("make", "z")), len(line)), line):
            self.refused(line + more)
        self.refused((line[0] + 1,) + line[1:])
        self.refused((1,))
        self.refused((0, 0))
        self.refused((10 ** 39,))
        self.refused((-1,))

    def test_kinds_of_things(self):
        line = line_of(BOOK, started(BOOK, "two"))
        self.refused(list(line))
        self.refused(list(line)[:1])
        self.refused(())
        self.refused([0])
        self.refused((False,))
        self.refused((line,))
        self.refused(str(line))

    def test_of_anything(self):
        for thing in odd_things():
            self.refused(thing)
            if thing is False or thing != 0:
                self.refused((thing,))
            self.refused((1, thing, 0))

    def test_ends(self):
        z, drop, s = rank(("make", "z")), rank(("drop", "n")), rank(("make", "s"))
        self.assertEqual(len(net_of(BOOK, (2, z, 1, drop, 0))), 2)
        self.assertEqual(net_of(BOOK, (1, s, 1, 0)).end_of((0, 0)), (0, 1))
        for line in [(2, z, 0, drop, 1), (2, z, 1, drop, 1), (2, z, 1, drop, 2), (2, z, -1, drop, 0), (1, z, 0), (1, s, 0, 1), (1, s, 1, 1), (1, s, 2, 0),
                     (3, z, 1, drop, 0, z, 0), (3, z, 1, drop, 2, z, 0), (3, z, 1, drop, 0, z, 2)]:
            self.refused(line)


if __name__ == "__main__":
    unittest.main()
