"""Points 2, 15, 16, 20 and 21: oncewire.runs."""

import copy
import time
import unittest

from oncewire.books import Book
from oncewire.errors import NoDef, NoMove, NoRule, NotShown
from oncewire.meaning import meaning
from oncewire.nets import Net, alike, moves
from oncewire.runs import Run, laid, started
from oncewire.shapes import is_shown
from oncewire.texts import read_program

from chances import programs
from samples import NATS, chance, odd_things
from worths import OtherNet, read_worth

DATA = "(= n (z) (s n)) (= b (no) (yes)) (= l (nil) (cons n l)) (= t (leaf) (node t t))"

PROGRAM = read_program(DATA + """
(@ add (> n (> n n)) (^ a n (^ c n (? a (z : c) (s m : (# s (! (! @add m) c)))))))
(@ two n (# s (# s (# z))))
(@ four n (! (! @add @two) @two))
(@ both (* n n) (+ @two x y (& (! (! @add x) (# z)) y)))
(@ pick b (/ (& (# z) @two) x y (- x (? y (z : (# no)) (s m : (- m (# yes)))))))
(@ ever n (# s @ever))
(@ grow t (# node @grow @grow))
(@ held (> b (> n (> l (* l n)))) (^ c b (^ a n (^ e l (? c (no : (& e a)) (yes : (& (# cons a e) (# z))))))))
(@ whole (* n (* b n)) (& @four (& @pick @two)))
""")

BOOK = Book(PROGRAM)
TIGHT = Book(PROGRAM, tight=True)
NN, NL = (">", "n", "n"), ("*", "l", "n")


def hand(rows, ties):
    """A net of agents of these symbols and ties; lower ports as the book tells them, or as they stand beside."""
    net = Net()
    for row in rows:
        symbol, lower = row if isinstance(row[0], tuple) else (row, BOOK.lower(row))
        net.put(symbol, lower)
    for one, other in ties:
        net.tie(one, other)
    return net


def told_of(run):
    """All that a run tells, as it is compared."""
    net = run.net_now()
    return (run.moves_now(), run.steps(), run.counts(), run.done(), run.laid_now(), run.greatest(), OtherNet(net).agents,
            OtherNet(net).ends(), net.copy().put(("x",)))


class Laid(unittest.TestCase):

    def check(self, net, move, agents, ties, following):
        kept = net.copy()
        told = laid(BOOK, net, move)
        self.assertEqual(net, kept)
        self.assertEqual(net.put(("x",)), kept.put(("x",)))
        self.assertEqual({n: told.symbol_of(n) for n in told.numbers()}, agents)
        found = set()
        for n in told.numbers():
            self.assertEqual(told.lower_of(n), BOOK.lower(told.symbol_of(n)))
            for place in range(told.lower_of(n) + 1):
                end = told.end_of((n, place))
                if end is not None:
                    found.add(frozenset([(n, place), end]))
        self.assertEqual(found, {frozenset(tie) for tie in ties})
        # Nothing of what went is left: it is like a net that was never other.
        other = Net()
        for n in sorted(agents):
            other.put(agents[n], BOOK.lower(agents[n]), at=n)
        for one, end in ties:
            other.tie(one, end)
        self.assertEqual(told, other)
        self.assertEqual(told.put(("x",)), following)

    def test_a_def_opens(self):
        self.check(started(BOOK, "two"), (1,), {0: ("out", "n"), 2: ("make", "s"), 3: ("make", "s"), 4: ("make", "z")},
                   [((0, 0), (2, 0)), ((2, 1), (3, 0)), ((3, 1), (4, 0))], 5)

    def test_a_def_whose_head_is_untied(self):
        self.check(hand([("def", "two")], []), (0,), {1: ("make", "s"), 2: ("make", "s"), 3: ("make", "z")},
                   [((1, 1), (2, 0)), ((2, 1), (3, 0))], 4)

    def test_a_def_at_a_lower_port(self):
        self.check(hand([("make", "s"), ("def", "ever")], [((1, 0), (0, 1))]), (1,), {0: ("make", "s"), 2: ("make", "s"), 3: ("def", "ever")},
                   [((0, 1), (2, 0)), ((2, 1), (3, 0))], 4)

    def test_a_def_at_a_def(self):
        net = hand([("def", "ever"), ("def", "two")], [((1, 0), (0, 0))])
        self.check(net, (0,), {1: ("def", "two"), 2: ("make", "s"), 3: ("def", "ever")}, [((1, 0), (2, 0)), ((2, 1), (3, 0))], 4)
        self.assertEqual(moves(net), [(0,), (1,)])

    def test_two_that_meet(self):
        rows = [("fun", "n", "n"), ("make", "z"), ("call", "n", "n"), ("drop", "n"), ("out", "n")]
        ties = [((0, 0), (2, 0)), ((0, 1), (3, 0)), ((0, 2), (1, 0)), ((2, 2), (4, 0))]
        net = hand(rows, ties)
        # The call's first lower port is untied, so what the function's is tied to is untied.
        self.check(net, (0, 2), {1: rows[1], 3: rows[3], 4: rows[4]}, [((1, 0), (4, 0))], 5)
        # The giver needn't be the one of the smaller number.
        rows = [("call", "n", "n"), ("make", "z"), ("fun", "n", "n"), ("make", "s"), ("make", "z"), ("out", "n")]
        net = hand(rows, [((0, 0), (2, 0)), ((2, 2), (1, 0)), ((2, 1), (3, 1)), ((0, 1), (4, 0)), ((0, 2), (5, 0))])
        self.check(net, (0, 2), {n: rows[n] for n in (1, 3, 4, 5)}, [((1, 0), (5, 0)), ((3, 1), (4, 0))], 6)

    def test_copied(self):
        rows = [("copy", "l"), ("make", "cons"), ("make", "z"), ("make", "nil"), ("make", "cons"), ("drop", "l")]
        net = hand(rows, [((0, 0), (1, 0)), ((1, 1), (2, 0)), ((1, 2), (3, 0)), ((0, 1), (4, 2)), ((0, 2), (5, 0))])
        agents = {2: rows[2], 3: rows[3], 4: rows[4], 5: rows[5], 6: ("make", "cons"), 7: ("make", "cons"), 8: ("copy", "n"), 9: ("copy", "l")}
        self.check(net, (0, 1), agents, [((6, 0), (4, 2)), ((7, 0), (5, 0)), ((8, 0), (2, 0)), ((9, 0), (3, 0)), ((8, 1), (6, 1)),
                   ((8, 2), (7, 1)), ((9, 1), (6, 2)), ((9, 2), (7, 2))], 10)

    def test_wires_in_a_row_between_the_two(self):
        # The maker's two parts are tied to what the choice holds and tells, crosswise.
        rows = [("make", "no"), ("choose", 2), ("make", "nil"), ("out", NL)]
        net = hand(rows, [((0, 0), (1, 0)), ((1, 1), (1, 2)), ((1, 3), (2, 0))])
        self.check(net, (0, 1), {2: rows[2], 3: rows[3], 4: ("pair", "l", "n")}, [((4, 0), (4, 1)), ((4, 2), (2, 0))], 5)
        rows = [("fun", "n", "n"), ("call", "n", "n"), ("make", "s"), ("out", "n")]
        for ties, wanted in [
            # By one wire.
            ([((0, 1), (0, 2)), ((1, 1), (2, 0)), ((1, 2), (3, 0))], [((2, 0), (3, 0))]),
            ([((0, 1), (2, 0)), ((0, 2), (3, 0)), ((1, 1), (1, 2))], [((2, 0), (3, 0))]),
            ([((0, 1), (1, 2)), ((1, 1), (2, 0)), ((0, 2), (3, 0))], [((2, 0), (3, 0))]),
            # By two in a row.
            ([((0, 1), (1, 1)), ((0, 2), (2, 0)), ((1, 2), (3, 0))], [((2, 0), (3, 0))]),
            # A row with an end that is untied.
            ([((0, 1), (0, 2)), ((1, 2), (3, 0))], []), ([((0, 1), (1, 2)), ((1, 1), (2, 0))], []), ([((0, 1), (2, 0))], []),
            ([((0, 1), (0, 2))], []), ([], []),
            # Wires that have no end at all.
            ([((0, 1), (0, 2)), ((1, 1), (1, 2))], []), ([((0, 1), (1, 1)), ((0, 2), (1, 2))], []),
            ([((0, 1), (1, 1)), ((0, 2), (2, 0)), ((1, 2), (3, 0)), ], [((2, 0), (3, 0))]),
            ([((0, 2), (1, 2)), ((0, 1), (2, 0)), ((1, 1), (2, 1))], [((2, 0), (2, 1))]),
            ([((0, 2), (1, 1)), ((0, 1), (2, 0)), ((1, 2), (2, 1))], [((2, 0), (2, 1))]),
        ]:
            net = hand(rows, [((0, 0), (1, 0))] + ties)
            self.check(net, (0, 1), {2: rows[2], 3: rows[3]}, wanted, 4)

    def test_several_in_a_row(self):
        # cons meets a copy: each of its parts is tied to where the copies come.
        rows = [("make", "cons"), ("copy", "l")]
        net = hand(rows, [((0, 0), (1, 0)), ((0, 1), (1, 1)), ((0, 2), (1, 2))])
        agents = {2: ("make", "cons"), 3: ("make", "cons"), 4: ("copy", "n"), 5: ("copy", "l")}
        self.check(net, (0, 1), agents, [((4, 0), (2, 0)), ((5, 0), (3, 0)), ((4, 1), (2, 1)), ((4, 2), (3, 1)), ((5, 1), (2, 2)),
                   ((5, 2), (3, 2))], 6)
        book = Book(read_program(DATA + "(@ f (> b (> n (> n (* n n)))) (^ c b (^ x n (^ y n (? c (no : (& x y)) (yes : (& y x)))))))"))
        net = Net()
        for symbol in (("make", "no"), ("choose", 0)):
            net.put(symbol, book.lower(symbol))
        net.tie((0, 0), (1, 0))
        net.tie((1, 2), (1, 3))
        told = laid(book, net, (0, 1))
        self.assertEqual(told.numbers(), [2])
        self.assertEqual([told.end_of((2, place)) for place in range(3)], [None, (2, 2), (2, 1)])

    def test_new_numbers(self):
        net = hand([("def", "two")], [])
        net.put(("drop", "n"), at=50)
        net.put(("drop", "n"), at=60)
        net.take_away(60)
        net.tie((0, 0), (50, 0))
        told = laid(BOOK, net, (0,))
        self.assertEqual(told.numbers(), [50, 61, 62, 63])
        self.assertEqual(told.end_of((50, 0)), (61, 0))
        told = laid(book=BOOK, net=told, move=(50, 61))
        self.assertEqual(told.numbers(), [62, 63, 64])
        self.assertEqual(moves(told), [(62, 64)])
        self.assertEqual(told.put(("x",)), 65)

    def test_no_move_of_anything(self):
        net = hand([("fun", "n", "n"), ("call", "n", "n"), ("def", "two"), ("out", "n"), ("drop", "n")],
                   [((0, 0), (1, 0)), ((2, 0), (3, 0)), ((4, 0), (0, 1))])
        run = Run(BOOK, None, net=net)
        kept = told_of(run)
        things = [(1, 0), (0,), (1,), (3,), (2, 3), (0, 1, 2), (0, 4), (4,), (9,), (-1,), (0, 9), [0, 1], [2], (False, 1), (0, True),
                  (False, True), (True,), 2, "01", ("0", "1"), (0, None), (None,), ((0, 1),), ((0,), (1,)), ([0], 1), (0, {}), {0: 1}, {2: 0}]
        for thing in things + odd_things():
            with self.assertRaises(NoMove):
                laid(BOOK, net, thing)
            with self.assertRaises(NoMove):
                run.do(thing)
        self.assertEqual(told_of(run), kept)

    def test_no_rule(self):
        rows = [
            [("make", "z"), ("call", "n", "n")], [("fun", "n", "n"), ("call", "n", "b")], [("make", "z"), ("choose", 2)],
            [("make", "z"), ("make", "z")], [("drop", "n"), ("copy", "n")], [("fun", "n", "n"), ("part", "n", "n")],
            [("make", "z"), ("copy", "b")], [("make", "z"), ("drop", "b")], [(("make", "q"), 0), ("drop", "n")],
            [(("fun", "q", "n"), 2), (("call", "q", "n"), 2)], [(("make", "no"), 0), (("choose", True), 1)], [(("x",), 0), (("y", 3), 2)],
            [(("make", "z"), 0), (("drop",), 0)], [(("def", "q"), 0)], [(("def",), 0)], [(("def", "two", "two"), 0)], [(("def", 0), 3)],
        ]
        for symbols in rows:
            for order in (symbols, symbols[::-1]):
                net = hand(order, [((0, 0), (1, 0))] if len(order) == 2 else [])
                move, = moves(net)
                kept = net.copy()
                for book in (BOOK, TIGHT):
                    with self.assertRaises(NoRule):
                        laid(book, net, move)
                    run = Run(book, None, net=net)
                    with self.assertRaises(NoRule):
                        run.do(move)
                    self.assertEqual(run.moves_now(), [move])
                    self.assertEqual((run.steps(), run.counts(), run.done(), run.laid_now(), run.greatest()), (0, {}, [], {}, 0))
                    self.assertEqual(run.net_now(), kept)
                # What is no move is refused ahead of that.
                with self.assertRaises(NoMove):
                    laid(BOOK, net, move + (5,))
                self.assertEqual(net, kept)

    def test_beside_another_way(self):
        luck = chance(41)
        done = refused = 0
        book = Book(programs(chance(42), 1, wide=60, deep=10)[0])
        symbols = [one for one in book.symbols() if one[0] != "out"]
        pairs = [(one, other) for one in symbols for other in symbols if book.piece(one, other) is not None]
        for _ in range(900):
            net = Net()
            for one in luck.choice(pairs) if luck.random() < 0.9 else luck.sample(symbols, 2):
                net.put(one, book.lower(one))
            for _ in range(luck.randrange(4)):
                one = luck.choice(symbols)
                net.put(one, book.lower(one), at=net.copy().put(("x",)) + luck.randrange(2))
            if luck.random() < 0.8:
                net.tie((0, 0), (1, 0))
            near = luck.random() < 0.6
            ports = [(n, place) for n in net.numbers() for place in range(net.lower_of(n) + 1)]
            ports = [port for port in ports if net.end_of(port) is None and (port[0] < 2 or not near)]
            luck.shuffle(ports)
            while len(ports) > 1:
                one, other = ports.pop(), ports.pop()
                if luck.random() < 0.85:
                    net.tie(one, other)
            for move in moves(net):
                agents, piece = move, book.piece(*[net.symbol_of(n) for n in move])
                if piece is None and len(move) == 2:
                    agents, piece = move[::-1], book.piece(*[net.symbol_of(n) for n in move[::-1]])
                if piece is None:
                    with self.assertRaises(NoRule):
                        laid(book, net, move)
                    refused += 1
                    continue
                other = OtherNet(net)
                other.lay(agents, piece)
                self.assertTrue(other.same(laid(book, net, move)))
                done += 1
        self.assertGreater(done, 700)
        self.assertGreater(refused, 20)


class Started(unittest.TestCase):

    def test_out_and_def(self):
        for book in (BOOK, TIGHT):
            for f, kind in (("two", "n"), ("both", ("*", "n", "n")), ("grow", "t")):
                net = started(book=book, f=f)
                self.assertEqual(net, hand([("out", kind), ("def", f)], [((0, 0), (1, 0))]))
                self.assertEqual((net.lower_of(0), net.lower_of(1)), (0, 0))
                self.assertEqual(moves(net), [(1,)])
                self.assertEqual(net.put(("x",)), 2)

    def test_new_each_time(self):
        net = started(BOOK, "two")
        net.take_away(1)
        self.assertEqual(len(started(BOOK, "two")), 2)

    def test_refused(self):
        for book in (BOOK, TIGHT):
            for thing in odd_things() + ["n", "z", "q", ("two",), ["two"], ("def", "two")]:
                with self.assertRaises(NoDef):
                    started(book, thing)
                with self.assertRaises(NoDef):
                    Run(book, thing)
            for f in ("add", "held"):
                with self.assertRaises(NotShown):
                    started(book, f)
                with self.assertRaises(NotShown):
                    Run(book, f)


class Runs(unittest.TestCase):

    def test_a_new_one(self):
        for run in (Run(BOOK, "four"), Run(book=BOOK, f="four", net=None)):
            self.assertEqual(run.moves_now(), [(1,)])
            self.assertEqual((run.steps(), run.counts(), run.done(), run.laid_now(), run.greatest()), (0, {}, [], {}, 0))
            self.assertEqual(run.net_now(), started(BOOK, "four"))

    def test_moves_and_what_is_told(self):
        run = Run(BOOK, "pick")
        self.assertIsNone(run.do((1,)))
        # out, part, pair, z, def two, drop, choose.
        self.assertEqual(run.net_now().numbers(), [0, 2, 3, 4, 5, 6, 7])
        self.assertEqual(run.moves_now(), [(2, 3), (5,)])
        self.assertIsNone(run.do(move=(2, 3)))
        self.assertEqual(run.moves_now(), [(4, 6), (5,)])
        run.do((5,))
        self.assertEqual(run.moves_now(), [(4, 6), (7, 8)])
        run.do((7, 8))
        self.assertEqual(run.moves_now(), [(4, 6), (9, 11)])
        run.do((4, 6))
        run.do((9, 11))
        self.assertEqual(run.moves_now(), [(10, 13)])
        self.assertIs(run.go(), True)
        self.assertEqual(run.moves_now(), [])
        self.assertEqual(run.done(), [(1,), (2, 3), (5,), (7, 8), (4, 6), (9, 11), (10, 13)])
        self.assertEqual(run.steps(), 7)
        self.assertEqual(run.counts(), {("open", "pick"): 1, ("part",): 1, ("open", "two"): 1, ("choice", "s"): 1, ("drop", "z"): 2,
                                        ("drop", "s"): 1})
        self.assertEqual(run.laid_now(), {(("def", "pick"),): 1, (("def", "two"),): 1, (("make", "s"), ("choose", 1)): 1})
        self.assertEqual(run.net_now(), self.ended())
        for move in [(1,), (2, 3), (10, 13)]:
            with self.assertRaises(NoMove):
                run.do(move)

    def ended(self):
        net = Net()
        net.put(("out", "b"))
        net.put(("make", "yes"), at=12)
        net.tie((0, 0), (12, 0))
        return net

    def test_all_names_of_counts(self):
        run = Run(BOOK, "whole")
        self.assertIs(run.go(), True)
        self.assertEqual(run.counts(), meaning(PROGRAM, "whole")[1])
        self.assertEqual({name[0] for name in run.counts()}, {"open", "call", "part", "choice", "drop"})
        run = Run(BOOK, "both")
        run.go()
        self.assertEqual(run.counts(), meaning(PROGRAM, "both")[1])
        self.assertEqual(run.counts()[("copy", "s")], 2)
        self.assertEqual(run.laid_now(), {(("def", "both"),): 1, (("def", "two"),): 1, (("def", "add"),): 3,
                                          (("make", "s"), ("choose", 0)): 2, (("make", "z"), ("choose", 0)): 1})

    def test_go(self):
        for book in (BOOK, TIGHT):
            run = Run(book, "ever")
            self.assertIs(run.go(most=5), False)
            self.assertEqual(run.steps(), 5)
            self.assertIs(run.go(picks=[], most=1), False)
            self.assertIs(run.go((), most=0), False)
            self.assertIs(run.go(most=-3), False)
            self.assertEqual(run.counts(), {("open", "ever"): 6})
            self.assertIs(run.go(), False)
            self.assertEqual(run.steps(), 2006)
            with self.assertRaises(TypeError):
                run.go((), 5)

    def test_most_0(self):
        run = Run(BOOK, "four")
        self.assertIs(run.go([1, 2, 3], most=0), False)
        self.assertEqual(run.steps(), 0)
        run.go()
        kept = told_of(run)
        self.assertIs(run.go(most=0), True)
        self.assertIs(run.go([5, 6]), True)
        self.assertEqual(told_of(run), kept)

    def test_just_the_steps(self):
        steps = sum(meaning(PROGRAM, "whole")[1].values())
        run = Run(BOOK, "whole")
        self.assertIs(run.go(most=steps - 1), False)
        self.assertIs(run.go(most=1), True)
        run = Run(BOOK, "whole")
        self.assertIs(run.go(most=steps), True)

    def test_picks(self):
        rows = [[0, 1, 2, 3, 4, 5], [-1] * 9, [10 ** 40 - 1, -(10 ** 40 - 1), 7, -7], (3, 1, 4, 1, 5, 9, 2, 6), [2], [-2, 5, -9, 100, 3, 3, 3, 3, 3, 3],
                (), [0], list(range(-30, 60))]
        for picks in rows:
            for most in (0, 1, 3, 7, 100):
                run, other = Run(BOOK, "whole"), Run(BOOK, "whole")
                kept = copy.deepcopy(picks)
                ended = run.go(picks, most=most)
                self.assertEqual(picks, kept)
                for at in range(most):
                    ways = moves(other.net_now())
                    self.assertEqual(other.moves_now(), ways)
                    if ways:
                        other.do(ways[picks[at] % len(ways) if at < len(picks) else 0])
                self.assertEqual(told_of(run), told_of(other))
                self.assertIs(ended, other.moves_now() == [])

    def test_gone_on_with(self):
        picks = [5, 3, 8, 1, 9, 2, 7, 7, 1, 0, 3, 4, 4, 8, 6, 1, 2, 3, 4, 5, 6, 7]
        run, other = Run(BOOK, "whole"), Run(BOOK, "whole")
        run.go(picks, most=22)
        for at in range(0, 22, 4):
            other.go(tuple(picks[at:at + 4]), most=min(4, 22 - at))
        self.assertEqual(told_of(run), told_of(other))

    def test_moves_are_up_to_date(self):
        luck = chance(43)
        for program in programs(luck, 40, wide=40, deep=10, wild=0.1):
            for book in (Book(program), Book(program, tight=True)):
                for f, kind, _ in program[1]:
                    if not is_shown(kind):
                        continue
                    run, net = Run(book, f), started(book, f)
                    other = OtherNet(net)
                    greatest = 0
                    for step in range(60):
                        ways = run.moves_now()
                        self.assertEqual(ways, moves(net))
                        if not ways:
                            break
                        move = luck.choice(ways)
                        run.do(move)
                        agents, piece = move, book.piece(*[net.symbol_of(n) for n in move])
                        if piece is None:
                            agents, piece = move[::-1], book.piece(*[net.symbol_of(n) for n in move[::-1]])
                        greatest = max(greatest, other.lay(agents, piece))
                        net = laid(book, net, move)
                        self.assertEqual(net, run.net_now())
                        self.assertTrue(other.same(net))
                        self.assertEqual(run.greatest(), greatest)
                        self.assertEqual(run.steps(), step + 1)


class LongRuns(unittest.TestCase):

    def test_a_def_that_is_itself(self):
        program = ((("d", (("m", ()),)),), (("f", "d", ("@", "f")),))
        other = read_program("(= n (z) (s n)) (@ one n (# s (# z)))")
        begun = time.process_time()
        for _ in range(300):
            self.assertIs(Run(Book(other), "one").go(), True)
            run = Run(Book(program), "f")
            self.assertIs(run.go(), False)
            self.assertEqual((run.steps(), run.counts()), (2000, {("open", "f"): 2000}))
        # One takes about 5 ms where it took 25 ms once; slow machines are given their time.
        self.assertLess(time.process_time() - begun, 15)
        self.assertEqual(run.done(), [(at,) for at in range(1, 2001)])
        self.assertEqual((run.moves_now(), run.greatest(), run.laid_now()), ([(2001,)], 2000, {(("def", "f"),): 2000}))

    def test_many_moves_at_once(self):
        net = Net()
        for _ in range(6000):
            agent, other = net.put(("make", "z")), net.put(("drop", "n"))
            net.tie((agent, 0), (other, 0))
        begun = time.process_time()
        for picks in ((), [-1] * 6000, [3 ** at % 10007 for at in range(6000)]):
            run = Run(BOOK, None, net=net)
            self.assertIs(run.go(picks, most=6000), True)
            self.assertEqual(run.counts(), {("drop", "z"): 6000})
            run = Run(BOOK, None, net=net)
            while run.beat(hands=100):
                pass
            self.assertEqual(run.steps(), 6000)
        self.assertLess(time.process_time() - begun, 30)

    def test_moves_that_come_and_go_in_any_order(self):
        """Moves come ahead of, among and behind those that there are: they stay rising, so the same are picked."""
        luck = chance(46)
        ahead = among = 0
        for _ in range(60):
            # Chains of functions that hand on come to meet in old numbers, defs and copies in new ones.
            net = Net()
            rows = [("fun", "n", "n"), ("call", "n", "n"), ("def", "two"), ("copy", "n"), ("drop", "n"), ("make", "z"), ("make", "s")]
            for _ in range(40):
                one = luck.choice(rows)
                net.put(one, BOOK.lower(one))
            heads = [(n, 0) for n in net.numbers()]
            givers = [port for port in heads if net.symbol_of(port[0])[0] in ("fun", "def", "make")]
            takers = [port for port in heads if port not in givers]
            ports = [(n, place) for n in net.numbers() for place in range(1, net.lower_of(n) + 1)]
            luck.shuffle(ports)
            for way in (givers, takers):
                luck.shuffle(way)
            while givers and takers:
                one, other = givers.pop(), takers.pop()
                symbols = net.symbol_of(one[0]), net.symbol_of(other[0])
                if symbols[0][0] == "def" or BOOK.piece(*symbols) is not None:
                    net.tie(one, other)
            while len(ports) > 1:
                net.tie(ports.pop(), ports.pop())
            for picks in ([0] * 80, [-1] * 80, [luck.randrange(99) for _ in range(80)]):
                run, other = Run(BOOK, None, net=net), net.copy()
                try:
                    run.go(picks, most=80)
                except NoRule:
                    pass
                for pick, move in zip(picks, run.done()):
                    ways = moves(other)
                    self.assertEqual(move, ways[pick % len(ways)])
                    other = laid(BOOK, other, move)
                    came = [way for way in moves(other) if way not in ways]
                    ahead += any(way < ways[0] for way in came)
                    among += any(ways[0] < way < ways[-1] for way in came)
                self.assertEqual(run.moves_now(), moves(other))
                self.assertEqual(run.net_now(), other)
        self.assertGreater(ahead, 50)
        self.assertGreater(among, 50)

    def test_no_rule_puts_the_rest_of_a_beat_back(self):
        net = Net()
        for symbol in [("make", "z"), ("drop", "n"), ("make", "s"), ("drop", "n"), ("make", "no"), ("drop", "n"), ("make", "z"), ("drop", "n")]:
            net.put(symbol, BOOK.lower(symbol))
        for at in range(0, 8, 2):
            net.tie((at, 0), (at + 1, 0))
        net.tie((net.put(("def", "two")), 0), (2, 1))
        for hands in (None, 3, 4, 5):
            run = Run(BOOK, None, net=net)
            with self.assertRaises(NoRule):
                run.beat(hands=hands)
            self.assertEqual(run.done(), [(0, 1), (2, 3)])
            self.assertEqual(run.moves_now(), [(4, 5), (6, 7), (8,)])
            run.do((8,))
            self.assertEqual(run.moves_now(), [(4, 5), (6, 7), (9, 10)])


class WhatIsTold(unittest.TestCase):

    def test_is_the_askers_own(self):
        run = Run(BOOK, "whole")
        run.go([3, 1, 4, 1, 5], most=9)
        kept = told_of(run)
        run.moves_now().clear()
        run.done().append((9,))
        run.counts()[("call",)] = 90
        run.counts().clear()
        run.laid_now()[(("def", "two"),)] = 90
        run.laid_now().clear()
        net = run.net_now()
        for agent in net.numbers():
            net.take_away(agent)
        self.assertEqual(told_of(run), kept)
        self.assertIs(type(run.moves_now()), list)
        self.assertIs(type(run.done()), list)
        self.assertIs(type(run.counts()), dict)
        self.assertIs(type(run.laid_now()), dict)

    def test_a_copy_goes_on_by_itself(self):
        for first in (0, 1, 5, 11, 99):
            run = Run(BOOK, "whole")
            run.go([2, 7, 1, 8, 2, 8], most=first)
            other = run.copy()
            self.assertIsInstance(other, Run)
            kept = told_of(run)
            self.assertEqual(told_of(other), kept)
            ended = other.go([1, 1, 2], most=4)
            self.assertEqual(told_of(run), kept)
            self.assertEqual(run.go([1, 1, 2], most=4), ended)
            self.assertEqual(told_of(run), told_of(other))
            run.go()
            self.assertEqual(run.counts(), meaning(PROGRAM, "whole")[1])
            other.go([9] * 50)
            self.assertEqual(run.greatest(), other.greatest())
            self.assertIsNotNone(alike(run.net_now(), other.net_now()))

    def test_what_a_refused_do_leaves(self):
        run = Run(BOOK, "whole")
        run.go(most=4)
        kept = told_of(run)
        for move in [(1,), (0,), (0, 5), None, "x", [2]]:
            with self.assertRaises(NoMove):
                run.do(move)
        self.assertEqual(told_of(run), kept)

    def test_the_book_is_not_changed(self):
        book = Book(PROGRAM, tight=True)
        pieces = [book.piece(("def", f)) for f, _, _ in PROGRAM[1]]
        run = Run(book, "whole")
        run.go()
        self.assertEqual([book.piece(("def", f)) for f, _, _ in PROGRAM[1]], pieces)
        self.assertEqual(book.program, PROGRAM)


class ByHand(unittest.TestCase):

    def net(self):
        """A def, and two that have no rule, behind one another."""
        return hand([("make", "s"), ("drop", "n"), ("def", "two"), ("make", "no"), ("drop", "n"), ("make", "z"), ("drop", "n")],
                    [((0, 0), (1, 0)), ((0, 1), (2, 0)), ((3, 0), (4, 0)), ((5, 0), (6, 0))])

    def test_nobody_looks_at_f(self):
        net = self.net()
        for thing in odd_things() + ["add", "nothing", "two"]:
            run = Run(BOOK, thing, net=net)
            self.assertEqual(run.net_now(), net)
        self.assertEqual(run.moves_now(), [(0, 1), (2,), (3, 4), (5, 6)])
        self.assertEqual((run.steps(), run.counts(), run.done(), run.laid_now(), run.greatest()), (0, {}, [], {}, 0))

    def test_the_net_is_not_kept(self):
        net = self.net()
        run = Run(BOOK, None, net=net)
        kept = told_of(run)
        net.take_away(2)
        self.assertEqual(told_of(run), kept)
        net = self.net()
        run = Run(BOOK, None, net=net)
        run.do((2,))
        self.assertEqual(net, self.net())
        self.assertEqual(net.put(("x",)), 7)

    def test_no_rule_on_the_way(self):
        run = Run(BOOK, None, net=self.net())
        with self.assertRaises(NoRule):
            run.go([3, 0, 1, 1])
        # The moves ahead of the one without a rule stay.
        self.assertEqual(run.done(), [(5, 6), (0, 1)])
        self.assertEqual(run.moves_now(), [(2,), (3, 4)])
        self.assertEqual(run.counts(), {("drop", "z"): 1, ("drop", "s"): 1})
        self.assertEqual(run.net_now().numbers(), [2, 3, 4, 7])
        with self.assertRaises(NoRule):
            run.go([1])
        self.assertEqual(run.steps(), 2)
        self.assertIs(run.go([0], most=1), False)
        self.assertEqual(run.moves_now(), [(3, 4), (7, 8)])

    def test_no_rule_in_a_beat(self):
        run = Run(BOOK, None, net=self.net())
        with self.assertRaises(NoRule):
            run.beat()
        self.assertEqual(run.done(), [(0, 1), (2,)])
        self.assertEqual(run.greatest(), 1)
        run = Run(BOOK, None, net=self.net())
        self.assertEqual(run.beat(hands=2), 2)
        with self.assertRaises(NoRule):
            run.beat(hands=2)
        self.assertEqual(run.done(), [(0, 1), (2,)])
        self.assertEqual(run.moves_now(), [(3, 4), (5, 6), (7, 8)])

    def test_a_truth_is_no_number_of_a_choice(self):
        z, one, other = ("make", "z"), ("choose", 1), ("choose", True)
        self.assertEqual(one, other)
        net = hand([z, one, z, (other, BOOK.lower(one))], [((0, 0), (1, 0)), ((2, 0), (3, 0))])
        run = Run(BOOK, None, net=net)
        run.do((0, 1))
        with self.assertRaises(NoRule):
            run.do((2, 3))
        with self.assertRaises(NoRule):
            run.copy().go()
        self.assertEqual(run.moves_now(), [(2, 3)])

    def test_numbers_go_on(self):
        net = Net()
        net.put(("def", "two"), at=70)
        net.put(("def", "two"), at=90)
        net.take_away(90)
        run = Run(TIGHT, None, net=net)
        run.do((70,))
        self.assertEqual(run.net_now().numbers(), [91, 92, 93])
        self.assertEqual(run.net_now().put(("x",)), 94)

    def test_of_no_agents(self):
        run = Run(BOOK, "four", net=Net())
        self.assertEqual(run.moves_now(), [])
        self.assertIs(run.go(), True)
        self.assertEqual(run.beat(), 0)
        self.assertEqual(len(run.net_now()), 0)

    def test_a_run_that_another_goes_on_with(self):
        run = Run(BOOK, "whole")
        run.go([4, 1, 3], most=8)
        other = Run(BOOK, None, net=run.net_now())
        self.assertEqual(other.moves_now(), run.moves_now())
        self.assertIs(other.go([7] * 90), True)
        steps = sum(meaning(PROGRAM, "whole")[1].values())
        self.assertEqual(run.steps() + other.steps(), steps)
        self.assertEqual(read_worth(other.net_now())[0], meaning(PROGRAM, "whole")[0])

    def test_ties_that_no_kind_allows(self):
        luck = chance(44)
        symbols = [one for one in BOOK.symbols() if one[0] not in ("out", "def") or one == ("def", "two")]
        for _ in range(150):
            net = Net()
            for _ in range(10):
                one = luck.choice(symbols)
                net.put(one, BOOK.lower(one))
            heads = [(n, 0) for n in net.numbers()]
            luck.shuffle(heads)
            while len(heads) > 1:
                net.tie(heads.pop(), heads.pop())
            ports = [(n, place) for n in net.numbers() for place in range(1, net.lower_of(n) + 1)]
            luck.shuffle(ports)
            while len(ports) > 3:
                net.tie(ports.pop(), ports.pop())
            run = Run(BOOK, None, net=net)
            other = OtherNet(net)
            greatest = 0
            for _ in range(30):
                self.assertEqual(run.moves_now(), moves(run.net_now()))
                ways = []
                for move in run.moves_now():
                    try:
                        laid(BOOK, run.net_now(), move)
                        ways.append(move)
                    except NoRule:
                        with self.assertRaises(NoRule):
                            run.do(move)
                if not ways:
                    break
                move = luck.choice(ways)
                pair = [run.net_now().symbol_of(n) for n in move]
                agents = move if BOOK.piece(*pair) is not None else move[::-1]
                greatest = max(greatest, other.lay(agents, BOOK.piece(*[run.net_now().symbol_of(n) for n in agents])))
                run.do(move)
                self.assertTrue(other.same(run.net_now()))
                self.assertEqual(run.greatest(), greatest)


class Beats(unittest.TestCase):

    def test_all_hands(self):
        run = Run(BOOK, "grow")
        self.assertEqual([run.beat() for _ in range(7)], [1, 2, 4, 8, 16, 32, 64])
        self.assertEqual(run.greatest(), 7)
        self.assertEqual(run.counts(), {("open", "grow"): 127})
        self.assertEqual(run.beat(hands=None), 128)

    def test_some_hands(self):
        run = Run(BOOK, "grow")
        self.assertEqual([run.beat(hands=5) for _ in range(6)], [1, 2, 4, 5, 5, 5])
        run = Run(BOOK, "grow")
        self.assertEqual([run.beat(hands=1) for _ in range(6)], [1] * 6)
        self.assertEqual(run.steps(), 6)
        run = Run(BOOK, "grow")
        self.assertEqual([run.beat(hands=100) for _ in range(9)], [1, 2, 4, 8, 16, 32, 64, 100, 100])
        with self.assertRaises(TypeError):
            run.beat(3)

    def test_the_first_as_they_stand_at_its_begin(self):
        for hands in (1, 2, 3, 100, None):
            run = Run(BOOK, "whole")
            while True:
                ways = run.moves_now()
                before = run.steps()
                told = run.beat(hands=hands)
                self.assertEqual(run.done()[before:], ways if hands is None else ways[:hands])
                self.assertEqual(told, run.steps() - before)
                if told == 0:
                    break
            self.assertEqual(run.moves_now(), [])
            self.assertEqual(run.counts(), meaning(PROGRAM, "whole")[1])

    def test_none_left(self):
        run = Run(BOOK, "two")
        self.assertEqual(run.beat(), 1)
        kept = told_of(run)
        for hands in (None, 1, 100):
            self.assertEqual(run.beat(hands=hands), 0)
        self.assertEqual(told_of(run), kept)

    def test_steps_and_beats_mixed(self):
        run = Run(BOOK, "whole")
        run.beat()
        run.go([2], most=1)
        run.beat(hands=1)
        run.do(run.moves_now()[-1])
        run.go()
        self.assertEqual(run.counts(), meaning(PROGRAM, "whole")[1])
        other = Run(BOOK, "whole")
        other.go()
        self.assertEqual(run.greatest(), other.greatest())


def with_all_hands(book, f, most=500):
    """How many beats with all hands until no move is left, or None."""
    run = Run(book, f)
    for many in range(most):
        if run.steps() > most:
            return None
        if run.beat() == 0:
            return many
    return None


class Moments(unittest.TestCase):

    def test_none_done(self):
        self.assertEqual(Run(BOOK, "four").greatest(), 0)
        self.assertEqual(Run(BOOK, None, net=Net()).greatest(), 0)

    def test_one_more_than_that_of_its_agents(self):
        run = Run(BOOK, "pick")
        told = []
        for move in [(1,), (2, 3), (5,), (7, 8), (4, 6), (9, 11), (10, 13)]:
            run.do(move)
            told.append(run.greatest())
        # (1,) has 1, (2, 3) and (5,) have 2, (7, 8) and (4, 6) have 3, then 4 and 5.
        self.assertEqual(told, [1, 2, 2, 3, 3, 4, 5])

    def test_a_wires_moment_counts(self):
        # Two functions within one another: what they were called with meets by a wire that came last.
        net = hand([("fun", "n", "n"), ("call", "n", "n"), ("make", "z"), ("drop", "n")],
                   [((0, 0), (1, 0)), ((0, 1), (3, 0)), ((1, 1), (2, 0))])
        run = Run(BOOK, None, net=net)
        run.do((0, 1))
        self.assertEqual(run.greatest(), 1)
        # Both agents have 0, the wire of their heads has 1.
        run.do((2, 3))
        self.assertEqual(run.greatest(), 2)

    def test_a_wire_keeps_the_greatest_of_those_in_it(self):
        # A chain of functions that hand on: the last wire has all moves in it, the agents have none.
        rows, ties = [], []
        for at in range(0, 10, 2):
            rows.extend([("fun", "n", "n"), ("call", "n", "n")])
            ties.append(((at, 0), (at + 1, 0)))
            if at > 0:
                ties.append(((at - 2, 1), (at + 1, 1)))
        rows.extend([("make", "z"), ("drop", "n")])
        ties.extend([((1, 1), (10, 0)), ((8, 1), (11, 0))])
        for order in ([0, 2, 4, 6, 8], [8, 6, 4, 2, 0], [4, 0, 8, 2, 6]):
            run = Run(BOOK, None, net=hand(rows, ties))
            for at in order:
                run.do((at, at + 1))
            self.assertEqual(run.greatest(), 1)
            self.assertEqual(run.moves_now(), [(10, 11)])
            run.do((10, 11))
            self.assertEqual(run.greatest(), 2)

    def test_an_old_wire_in_a_new_one(self):
        # The wire of the drop's head gets 4 by hand of a chain, then an early move ties it to a new agent.
        rows = [("def", "two"), ("drop", "n")]
        net = hand(rows, [])
        run = Run(BOOK, None, net=net)
        run.do((0,))
        self.assertEqual(run.greatest(), 1)
        late = read_program(DATA + "(@ f n (! (^ x n (! (^ y n (! (^ v n v) y)) x)) @g)) (@ g n (? (# no) (no : (# z)) (yes : (# s (# z)))))")
        book = Book(late)
        first, last = Run(book, "f"), Run(book, "f")
        first.go()
        last.go([-1] * 50)
        self.assertEqual(first.greatest(), last.greatest())
        self.assertEqual(first.greatest(), with_all_hands(book, "f"))

    def test_a_defs_moment_is_that_of_its_agent_alone(self):
        # The wire at its head has 1 when it is opened, the def's agent 0: the opening has 1 all the same.
        net = hand([("fun", "n", "n"), ("call", "n", "n"), ("def", "two"), ("drop", "n")],
                   [((0, 0), (1, 0)), ((0, 1), (3, 0)), ((1, 1), (2, 0))])
        run = Run(BOOK, None, net=net)
        run.do((0, 1))
        run.do((2,))
        self.assertEqual(run.greatest(), 1)
        # What it told hangs at a wire of moment 1.
        run.do((3, 4))
        self.assertEqual(run.greatest(), 2)
        # Here the wire has 2, what the def told 1: the wire keeps the greater one.
        net = hand([("fun", "n", "n"), ("call", "n", "n"), ("def", "two"), ("fun", "n", "n"), ("call", "n", "n"), ("drop", "n"),
                    ("part", NN, "n"), ("pair", NN, "n")],
                   [((0, 0), (6, 1)), ((1, 0), (7, 1)), ((6, 0), (7, 0)), ((0, 1), (5, 0)), ((1, 1), (2, 0)), ((3, 0), (4, 0))])
        run = Run(BOOK, None, net=net)
        run.do((6, 7))
        self.assertEqual((run.greatest(), run.moves_now()), (1, [(0, 1), (2,), (3, 4)]))
        run.do((2,))
        self.assertEqual(run.greatest(), 1)
        run.do((0, 1))
        self.assertEqual(run.greatest(), 2)
        run.do((5, 8))
        self.assertEqual(run.greatest(), 3)

    def test_by_hand_all_have_0(self):
        run = Run(BOOK, "whole")
        run.go(most=6)
        other = Run(BOOK, "whole", net=run.net_now())
        self.assertEqual(other.greatest(), 0)
        other.beat()
        self.assertEqual(other.greatest(), 1)

    def test_beside_the_number_of_beats(self):
        luck = chance(45)
        ended = 0
        for program in programs(luck, 60, wide=50, deep=10, wild=0.05):
            for book in (Book(program), Book(program, tight=True)):
                for f, kind, _ in program[1]:
                    if not is_shown(kind):
                        continue
                    many = with_all_hands(book, f)
                    if many is None:
                        continue
                    ended += 1
                    for order in range(3):
                        run = Run(book, f)
                        run.go([luck.randrange(10 ** 9) for _ in range(600)] if order else [])
                        self.assertEqual(run.moves_now(), [])
                        self.assertEqual(run.greatest(), many)
                    for hands in (1, 2, 3, 100):
                        run, told = Run(book, f), 0
                        while run.beat(hands=hands):
                            told += 1
                        steps = run.steps()
                        self.assertEqual(run.greatest(), many)
                        self.assertGreaterEqual(told, max(many, -(-steps // hands)))
                        self.assertLessEqual(told, many + (steps - many) // hands)
        self.assertGreater(ended, 100)

    def test_copies_between_beats(self):
        run = Run(BOOK, "whole")
        run.beat()
        run.beat(hands=2)
        other = run.copy()
        kept = told_of(run)
        while other.beat():
            pass
        self.assertEqual(told_of(run), kept)
        run.go([5, 4, 3, 2, 1] * 20)
        self.assertEqual(run.greatest(), other.greatest())
        self.assertEqual(run.greatest(), with_all_hands(BOOK, "whole"))

    def test_sixty_moments(self):
        run = Run(BOOK, "ever")
        for many in range(1, 300):
            run.beat()
            self.assertEqual(run.greatest(), many)


class Samples(unittest.TestCase):

    def test_runs_of_the_first_stages_program(self):
        for tight in (False, True):
            run = Run(Book(NATS, tight=tight), "three")
            self.assertIs(run.go(), True)
            self.assertEqual(run.counts(), {("open", "three"): 1})
            self.assertEqual(read_worth(run.net_now())[0], meaning(NATS, "three")[0])


if __name__ == "__main__":
    unittest.main()
