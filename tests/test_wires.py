"""Points 2, 17, 18 and 19: oncewire.wires."""

import time
import unittest

from oncewire.books import Book
from oncewire.errors import NoPort, NoSymbol
from oncewire.kinds import let_by
from oncewire.nets import Net
from oncewire.runs import Run, started
from oncewire.shapes import is_shown
from oncewire.texts import read_program
from oncewire.wires import is_order, is_ring, order_in, port_kind, ring_in, unfit, way

from chances import programs
from rings import good_order, good_ring, has_ring, ports
from samples import chance, deep_kind, odd_things
from worths import choice_kinds
from worths import port_kind as other_port_kind

PROGRAM = read_program("""
(= n (z) (s n)) (= b (no) (yes)) (= l (nil) (cons n l)) (= t (leaf b) (node t n l t))
(@ two n (# s (# s (# z))))
(@ swap (> (* n l) (* l n)) (^ p (* n l) (/ p x y (& y x))))
(@ held (> b (> n (> (> n l) (* l n)))) (^ c b (^ a n (^ g (> n l) (? c (no : (& (! g a) (# z))) (yes : (& (! g (# s a)) @two)))))))
(@ within (> b (> n (> l (* n l)))) (^ c b (^ x n (^ y l (? c
    (no : (? x (z : (& (# z) y)) (s m : (& m y))))
    (yes : (? y (nil : (& x (# nil))) (cons h t : (& (# s h) (- x t))))))))))
(@ again (> n (> b (* n b))) (^ x n (^ c b (? c (no : (/ (& x (# no)) x v (& x v))) (yes : (! (^ x n (& x (# yes))) x))))))
(@ copies n (+ @two x y (- x y)))
""")
BOOK = Book(PROGRAM)
TIGHT = Book(PROGRAM, tight=True)
NL, LN, GNL = ("*", "n", "l"), ("*", "l", "n"), (">", "n", "l")

PORTS = {
    ("out", "n"): ["-n"],
    ("out", GNL): [("-", GNL)],
    ("out", ("*", "t", ("*", GNL, "b"))): [("-", ("*", "t", ("*", GNL, "b")))],
    ("fun", "n", "l"): [("+", GNL), "+n", "-l"],
    ("fun", ("*", "t", "t"), GNL): [("+", (">", ("*", "t", "t"), GNL)), ("+", ("*", "t", "t")), ("-", GNL)],
    ("call", "n", "l"): [("-", GNL), "-n", "+l"],
    ("call", GNL, NL): [("-", (">", GNL, NL)), ("-", GNL), ("+", NL)],
    ("pair", "n", "l"): [("+", NL), "-n", "-l"],
    ("pair", GNL, "t"): [("+", ("*", GNL, "t")), ("-", GNL), "-t"],
    ("part", "n", "l"): [("-", NL), "+n", "+l"],
    ("part", "b", NL): [("-", ("*", "b", NL)), "+b", ("+", NL)],
    ("make", "z"): ["+n"],
    ("make", "s"): ["+n", "-n"],
    ("make", "cons"): ["+l", "-n", "-l"],
    ("make", "leaf"): ["+t", "-b"],
    ("make", "node"): ["+t", "-t", "-n", "-l", "-t"],
    ("copy", "b"): ["-b", "+b", "+b"],
    ("copy", "t"): ["-t", "+t", "+t"],
    ("drop", "l"): ["-l"],
    ("def", "two"): ["+n"],
    ("def", "swap"): [("+", (">", NL, LN))],
    # The names that a choice holds: a function's and a number's, by the order in which they stand in the first case.
    ("choose", 0): ["-b", ("+", LN), ("-", GNL), "-n"],
    ("choose", 1): ["-b", ("+", NL), "-n", "-l"],
    ("choose", 2): ["-n", ("+", NL), "-l"],
    ("choose", 3): ["-l", ("+", NL), "-n"],
    # A name of its own stands within under the same letter.
    ("choose", 4): ["-b", ("+", ("*", "n", "b")), "-n"],
}


def odd_symbols():
    """Things that are no symbols of the program."""
    return [
        (), ("out",), ("out", "q"), ("out", "n", "n"), ("out", ["n"]), ("fun", "n"), ("fun", "n", "l", "b"), ("fun", "n", "q"), ("call", "n"),
        ("call", "q", "n"), ("pair", "n", None), ("part", "n", True), ("make",), ("make", "q"), ("make", "n"), ("make", "z", "z"), ("choose",),
        ("choose", 5), ("choose", -1), ("choose", True), ("choose", False), ("choose", "0"), ("choose", 0, 0), ("choose", None), ("copy", "q"),
        ("copy", "z"), ("copy", NL), ("drop", "s"), ("drop", "n", "n"), ("def", "q"), ("def", "n"), ("def", ("two",)), ("def",), ["out", "n"],
        ["make", "z"], "out", "make", ("Out", "n"), (0, "n"), (None, "n"), (("out",), "n"), ("out", deep_kind(7)), ("fun", deep_kind(6), "n"),
        ("fun", "n", ("*", "n", ("*", "n", ("*", "n", ("*", "n", ("*", "n", "n")))))), ("pair", "n", ("*", "n", ("*", "n", ("*", "n", ("*", "n", ("*", "n", "n")))))),
        ("choose", 10 ** 39), ("x",), ("make", ["z"]), ("make", {}), ("def", {"a": 1}), {"out": "n"}, {0: "out"},
    ]


def net_of(rows, ties):
    """A net of agents, each a symbol or a symbol and how many lower ports it has."""
    net = Net()
    for row in rows:
        symbol, lower = row if isinstance(row[0], tuple) else (row, BOOK.lower(row))
        net.put(symbol, lower)
    for one, other in ties:
        net.tie(one, other)
    return net


class PortKinds(unittest.TestCase):

    def test_each_sort_at_each_place(self):
        for book in (BOOK, TIGHT):
            for symbol, rows in PORTS.items():
                self.assertEqual(len(rows), book.lower(symbol) + 1)
                for place, row in enumerate(rows):
                    wanted = (row[0], row[1:]) if isinstance(row, str) else row
                    self.assertEqual(port_kind(book, symbol, place), wanted, (symbol, place))
        self.assertEqual(port_kind(book=BOOK, symbol=("drop", "n"), place=0), ("-", "n"))
        self.assertEqual({symbol[0] for symbol in PORTS}, {symbol[0] for symbol in BOOK.symbols()})

    def test_no_port(self):
        for symbol, rows in PORTS.items():
            for place in [len(rows), len(rows) + 1, -1, -len(rows), 10 ** 39, -10 ** 39, True, False, None, "0", (), (0,), [0], {}, {0: 0}]:
                with self.assertRaises(NoPort):
                    port_kind(BOOK, symbol, place)
        for place in odd_things():
            if place not in (0, 1) or isinstance(place, bool):
                with self.assertRaises(NoPort):
                    port_kind(BOOK, ("make", "s"), place)

    def test_no_symbol_ahead_of_no_port(self):
        for thing in odd_symbols() + odd_things():
            for place in (0, 1, 9, -1, True, None, "x", []):
                with self.assertRaises(NoSymbol):
                    port_kind(BOOK, thing, place)

    def test_kinds_of_six_within_one_another(self):
        five = (">", "n", ("*", "n", ("*", "n", ("*", "n", "l"))))
        self.assertEqual(port_kind(BOOK, ("fun", five, "n"), 0), ("+", (">", five, "n")))
        self.assertEqual(port_kind(BOOK, ("part", GNL, five), 2), ("+", five))
        self.assertEqual(port_kind(BOOK, ("out", ("*", five, "n")), 0), ("-", ("*", five, "n")))
        for symbol in (("fun", ("*", five, "n"), "n"), ("call", "n", ("*", "n", five)), ("pair", ("*", five, "n"), "n")):
            with self.assertRaises(NoSymbol):
                port_kind(BOOK, symbol, 0)

    def test_a_data_kind_of_one_maker(self):
        book = Book(read_program("(= d (m)) (@ f (> d (> d (* d d))) (^ x d (^ y d (? x (m : (+ y v w (& v w)))))))"))
        self.assertEqual([port_kind(book, ("choose", 0), place) for place in range(3)], [("-", "d"), ("+", ("*", "d", "d")), ("-", "d")])

    def test_beside_another_way(self):
        for program in programs(chance(61), 60, wide=60, deep=10, wild=0.2):
            book = Book(program)
            kinds = choice_kinds(program, let_by(program))
            for symbol in book.symbols():
                for place in range(book.lower(symbol) + 1):
                    self.assertEqual(port_kind(book, symbol, place), other_port_kind(program, kinds, symbol, place))
                with self.assertRaises(NoPort):
                    port_kind(book, symbol, book.lower(symbol) + 1)


class Unfit(unittest.TestCase):

    def check(self, rows, ties, wanted):
        net = net_of(rows, ties)
        kept = net.copy()
        for book in (BOOK, TIGHT):
            self.assertEqual(unfit(book, net), wanted)
        self.assertEqual(net, kept)

    def test_none(self):
        self.check([], [], [])
        self.check([("out", "n"), ("make", "z")], [((0, 0), (1, 0))], [])
        self.assertEqual(unfit(book=BOOK, net=started(BOOK, "two")), [])

    def test_untied(self):
        self.check([("make", "cons")], [], [((0, 0), None), ((0, 1), None), ((0, 2), None)])
        self.check([("make", "cons"), ("make", "z")], [((1, 0), (0, 1))], [((0, 0), None), ((0, 2), None)])

    def test_not_just_one_gives(self):
        # Both give, then both take.
        self.check([("make", "z"), ("make", "z")], [((0, 0), (1, 0))], [((0, 0), (1, 0))])
        self.check([("drop", "n"), ("out", "n")], [((0, 0), (1, 0))], [((0, 0), (1, 0))])
        self.check([("make", "s"), ("call", "n", "n"), ("def", "two")], [((1, 2), (0, 0)), ((0, 1), (1, 1))],
                   [((0, 0), (1, 2)), ((0, 1), (1, 1)), ((1, 0), None), ((2, 0), None)])

    def test_unlike_kinds(self):
        self.check([("make", "z"), ("drop", "l")], [((0, 0), (1, 0))], [((0, 0), (1, 0))])
        self.check([("drop", "l"), ("make", "z")], [((1, 0), (0, 0))], [((0, 0), (1, 0))])
        self.check([("fun", "n", "l"), ("call", "n", "n")], [((0, 0), (1, 0)), ((0, 1), (1, 1)), ((1, 2), (0, 2))],
                   [((0, 0), (1, 0)), ((0, 2), (1, 2))])

    def test_two_ports_of_one_agent(self):
        self.check([("make", "s")], [((0, 1), (0, 0))], [])
        self.check([("make", "cons")], [((0, 2), (0, 1))], [((0, 0), None), ((0, 1), (0, 2))])
        self.check([("fun", "n", "n")], [((0, 1), (0, 2))], [((0, 0), None)])
        self.check([("fun", "n", "l")], [((0, 1), (0, 2))], [((0, 0), None), ((0, 1), (0, 2))])

    def test_rising(self):
        net = Net()
        for at in (30, 7, 2):
            net.put(("drop", "n"), at=None if at == 2 else 40 - at)
        net.put(("make", "cons"), 2)
        net.tie((10, 0), (33, 0))
        self.assertEqual(net.numbers(), [10, 33, 34, 35])
        self.assertEqual(unfit(BOOK, net), [((10, 0), (33, 0)), ((34, 0), None), ((35, 0), None), ((35, 1), None), ((35, 2), None)])

    def test_symbols_of_no_part(self):
        # A function of kinds that no part of the program has.
        rows = [("fun", "t", "t"), ("call", "t", "t"), ("out", "t"), ("make", "leaf"), ("make", "no")]
        ties = [((0, 0), (1, 0)), ((0, 1), (0, 2)), ((1, 1), (3, 0)), ((3, 1), (4, 0)), ((1, 2), (2, 0))]
        self.check(rows, ties, [])
        self.check(rows, ties[1:], [((0, 0), None), ((1, 0), None)])

    def test_no_symbol(self):
        for symbol in [("x",), ("make", "q"), ("choose", True), ("fun", "n"), ("out", deep_kind(7))]:
            for ties in ([], [((0, 0), (1, 0))]):
                with self.assertRaises(NoSymbol):
                    unfit(BOOK, net_of([("make", "z"), (symbol, 0)], ties))
        # Ahead of a port that its symbol hasn't, whatever stands first.
        net = net_of([(("drop", "n"), 2), (("x",), 0)], [])
        with self.assertRaises(NoSymbol):
            unfit(BOOK, net)
        net.take_away(1)
        for lower in (1, 2):
            with self.assertRaises(NoPort):
                unfit(BOOK, net_of([("make", "z"), (("drop", "n"), lower)], []))

    def test_new_each_time(self):
        net = net_of([("drop", "n")], [])
        unfit(BOOK, net).clear()
        self.assertEqual(unfit(BOOK, net), [((0, 0), None)])


class Ways(unittest.TestCase):

    ROWS = [("out", "n"), ("call", "n", "n"), ("fun", "n", "n"), ("make", "s"), ("def", "two"), ("copy", "n"), ("make", "z"), ("drop", "n")]

    def net(self):
        """out takes what a call gives; its function gives what it gets; it is called with a copy of two."""
        ties = [((0, 0), (1, 2)), ((1, 0), (2, 0)), ((2, 1), (2, 2)), ((1, 1), (5, 1)), ((5, 0), (4, 0)), ((5, 2), (3, 1)), ((6, 0), (7, 0))]
        return net_of(self.ROWS, ties)

    def test_words(self):
        net = self.net()
        self.assertEqual(way(net), ([1, 2], "meets"))
        self.assertEqual(way(net=net, port=(0, 0)), ([1, 2], "meets"))
        self.assertEqual(way(net, port=(1, 1)), ([5, 4], "opens"))
        self.assertEqual(way(net, port=(3, 1)), ([5, 4], "opens"))
        self.assertEqual(way(net, port=(1, 0)), ([2], "shown"))
        self.assertEqual(way(net, port=(5, 0)), ([4], "opens"))
        self.assertEqual(way(net, port=(4, 0)), ([5], "shown"))
        self.assertEqual(way(net, port=(7, 0)), ([6], "shown"))
        # Its end is a lower port, and from the end of that agent's head one goes on.
        self.assertEqual(way(net, port=(2, 1)), ([2, 1], "meets"))
        self.assertEqual(way(net, port=(2, 2)), ([2, 1], "meets"))
        self.assertEqual(way(net, port=(1, 2)), ([0], "shown"))

    def test_open(self):
        net = self.net()
        self.assertEqual(way(net, port=(3, 0)), ([], "open"))
        self.assertEqual(way(net_of([("out", "n")], [])), ([], "open"))
        net.take_away(4)
        self.assertEqual(way(net, port=(1, 1)), ([5], "open"))
        self.assertEqual(way(net, port=(5, 0)), ([], "open"))
        self.assertEqual(way(net, port=(5, 2)), ([3], "open"))
        # A longer one.
        net = net_of([("call", "n", "n")] * 4, [((0, 2), (1, 0)), ((1, 2), (2, 0)), ((2, 2), (3, 0))])
        self.assertEqual(way(net, port=(3, 0)), ([2, 1, 0], "open"))

    def test_shown_and_out(self):
        net = net_of([("make", "s"), ("out", "n"), ("make", "z")], [((1, 0), (0, 0)), ((0, 1), (2, 0))])
        self.assertEqual(way(net), ([0], "shown"))
        self.assertEqual(way(net, port=(0, 1)), ([2], "shown"))
        # From the lower port of what is tied to out one comes to out's head.
        self.assertEqual(way(net, port=(2, 0)), ([0, 1], "meets"))
        self.assertEqual(way(net, port=(0, 0)), ([1], "shown"))
        net = net_of([("def", "two"), ("out", "n")], [((0, 0), (1, 0))])
        self.assertEqual(way(net), ([0], "opens"))
        self.assertEqual(way(net, port=(0, 0)), ([1], "shown"))

    def test_round(self):
        # Three calls, each the function that the next one calls.
        net = net_of([("out", "n"), ("call", "n", "n"), ("call", "n", "n"), ("call", "n", "n")],
                     [((0, 0), (1, 2)), ((1, 0), (2, 2)), ((2, 0), (3, 2)), ((3, 0), (1, 1))])
        self.assertEqual(way(net), ([1, 2, 3], "round"))
        self.assertEqual(way(net, port=(2, 0)), ([3, 1, 2], "round"))
        # An agent that is met a second time, not the first one.
        net = net_of([("out", "n"), ("call", "n", "n"), ("call", "n", "n"), ("call", "n", "n")],
                     [((0, 0), (1, 2)), ((1, 0), (2, 2)), ((2, 0), (3, 2)), ((3, 0), (2, 1))])
        self.assertEqual(way(net), ([1, 2, 3], "round"))
        # One alone.
        net = net_of([("call", "n", "n"), ("out", "n")], [((0, 0), (0, 1)), ((1, 0), (0, 2))])
        self.assertEqual(way(net), ([0], "round"))
        self.assertEqual(way(net, port=(0, 0)), ([0], "round"))
        self.assertEqual(way(net, port=(0, 1)), ([0], "shown"))

    def test_long(self):
        many = 600
        net = net_of([("call", "n", "n")] * many + [("def", "swap")], [((n, 0), (n + 1, 2)) for n in range(many - 1)] + [((many - 1, 0), (many, 0))])
        net.tie((net.put(("out", "n")), 0), (0, 2))
        self.assertEqual(way(net), (list(range(many + 1)), "opens"))

    def test_no_port_of_anything(self):
        net = self.net()
        things = [(0, 1), (0, -1), (8, 0), (-1, 0), (True, 0), (0, False), (0,), (0, 0, 0), [0, 0], "00", 0, ((0, 0),), (None, 0), (0, None), {0: 0}]
        for thing in things + [thing for thing in odd_things() if thing is not None]:
            with self.assertRaises(NoPort):
                way(net, port=thing)
        with self.assertRaises(TypeError):
            way(net, (0, 0))

    def test_not_just_one_out(self):
        for net in (Net(), net_of([("make", "z")], []), net_of([("out", "n"), ("out", "n")], [])):
            with self.assertRaises(NoPort):
                way(net)
            with self.assertRaises(NoPort):
                way(net, port=None)

    def test_new_each_time(self):
        net = self.net()
        way(net)[0].clear()
        self.assertEqual(way(net), ([1, 2], "meets"))


class Rings(unittest.TestCase):

    def check(self, net, ring):
        """Whether there is a ring; where there is, what is told is one, and no order is."""
        kept = net.copy()
        found, order = ring_in(net), order_in(net)
        self.assertEqual(net, kept)
        self.assertIs(has_ring(net), ring)
        if ring:
            self.assertIsNone(order)
            self.assertTrue(good_ring(net, found))
            self.assertIs(is_ring(net, found), True)
            self.assertIs(is_order(net, net.numbers()), False)
        else:
            self.assertIsNone(found)
            self.assertTrue(good_order(net, order))
            self.assertIs(is_order(net, order), True)

    def test_none(self):
        self.check(Net(), False)
        self.assertEqual(order_in(Net()), [])
        self.assertIs(is_order(Net(), []), True)
        self.assertIs(is_ring(Net(), []), False)
        for symbol in PORTS:
            self.check(net_of([symbol], []), False)
        self.check(started(BOOK, "two"), False)

    def test_of_one_agent(self):
        for symbol in PORTS:
            lower = BOOK.lower(symbol)
            for one in range(lower + 1):
                for other in range(one):
                    fork = symbol[0] in ("fun", "part", "copy") and other > 0
                    net = net_of([symbol], [((0, one), (0, other))])
                    self.check(net, not fork)
                    for ring in ([(0, one, other)], [(0, other, one)]):
                        self.assertIs(is_ring(net, ring), not fork)
        net = net_of([("make", "cons")], [((0, 1), (0, 2))])
        self.assertIn(ring_in(net), ([(0, 1, 2)], [(0, 2, 1)]))

    def test_two_wires_between_two(self):
        rows = {"fun": ("fun", "n", "n"), "call": ("call", "n", "n"), "copy": ("copy", "n"), "pair": ("pair", "n", "n"), "part": ("part", "n", "n")}
        for one in rows:
            for other in rows:
                for ties in ([((0, 1), (1, 1)), ((0, 2), (1, 2))], [((0, 1), (1, 1)), ((0, 0), (1, 2))], [((0, 1), (1, 0)), ((0, 2), (1, 1))]):
                    net = net_of([rows[one], rows[other]], ties)
                    places = [[port[1] for tie in ties for port in tie if port[0] == n] for n in (0, 1)]
                    fork = [name in ("fun", "copy", "part") and 0 not in row for name, row in zip((one, other), places)]
                    self.check(net, not any(fork))

    def test_told_turned_about_and_begun_elsewhere(self):
        net = net_of([("call", "n", "n"), ("pair", "n", "n"), ("make", "cons"), ("fun", "n", "n"), ("out", "n")],
                     [((0, 1), (1, 0)), ((1, 2), (2, 1)), ((2, 0), (3, 2)), ((3, 0), (0, 0)), ((0, 2), (4, 0))])
        self.check(net, True)
        ring = [(0, 0, 1), (1, 0, 2), (2, 1, 0), (3, 2, 0)]
        about = [(n, out, came) for n, came, out in ring[::-1]]
        for row in (ring, about):
            for at in range(4):
                self.assertIs(is_ring(net, row[at:] + row[:at]), True)
        self.assertIn(sorted(ring_in(net)), (sorted(ring), sorted(about)))
        wrong = [[(0, False, 1)] + ring[1:], ring[:1] + [(1, False, 2)] + ring[2:], ring[:3], ring[1:], ring + ring, ring + ring[:1], ring[::-1], [], [ring[1], ring[0], ring[2], ring[3]], tuple(ring),
                 [list(row) for row in ring], ring[:3] + [(3, 1, 0)], ring[:3] + [(3, 0, 2)], ring[:3] + [(3, 2, 1)], ring[:3] + [(3, 2, 2)],
                 ring[:3] + [(3, 2, 3)], ring[:3] + [(3, 2, -1)], ring[:3] + [(3, 2)], ring[:3] + [(3, 2, 0, 0)], ring[:3] + [(9, 2, 0)],
                 ring[:3] + [(3, 2, False)], [(False, 0, 1)] + ring[1:], [(0, 0, True)] + ring[1:], ring[:1] + [(True, 0, 2)] + ring[2:],
                 ring[:3] + [(None, 2, 0)], ring[:3] + [None], ring[:3] + ["320"], [[0, 0, 1]] + ring[1:], {0: ring}]
        for thing in wrong + odd_things():
            self.assertIs(is_ring(net, thing), False, thing)

    def test_one_thing_otherwise(self):
        luck = chance(62)
        for _ in range(150):
            net = random_net(luck, 24)
            ring = ring_in(net)
            if ring is None:
                continue
            for at, row in enumerate(ring):
                for place in range(3):
                    for to in range(-1, 9):
                        other = list(row)
                        other[place] = to
                        thing = ring[:at] + [tuple(other)] + ring[at + 1:]
                        self.assertIs(is_ring(net, thing), all((n, p) in ports(net) for n, *two in thing for p in two) and good_ring(net, thing))

    def test_leaves_a_fork_by_its_other_lower_port(self):
        # What a copy tells twice comes together again: no ring.
        net = net_of([("def", "two"), ("copy", "n"), ("pair", "n", "n"), ("part", "n", "n"), ("fun", "n", "n"), ("make", "cons")],
                     [((0, 0), (1, 0)), ((1, 1), (2, 1)), ((1, 2), (2, 2)), ((2, 0), (3, 0)), ((3, 1), (5, 1)), ((3, 2), (5, 2)),
                      ((4, 1), (4, 2)), ((4, 0), (5, 0))])
        self.check(net, False)
        self.assertIs(is_ring(net, [(1, 1, 2), (2, 2, 1)]), False)
        self.assertIs(is_order(net, [1, 3, 4, 0, 2, 5]), True)
        self.assertIs(is_order(net, [2, 1, 3, 4, 0, 5]), False)
        self.assertIs(is_order(net, [5, 1, 3, 4, 0, 2]), False)

    def test_orders(self):
        net = net_of([("def", "two"), ("copy", "n"), ("pair", "n", "n"), ("out", "n")], [((0, 0), (1, 0)), ((1, 1), (2, 1)), ((1, 2), (2, 2)), ((2, 0), (3, 0))])
        good = [[1, 2, 3, 0], [0, 1, 2, 3], [3, 1, 0, 2], [0, 3, 1, 2]]
        for row in good:
            self.assertIs(is_order(net, row), True)
        wrong = [[2, 1, 3, 0], [0, 2, 1, 3], [0, 1, 2], [0, 1, 2, 3, 3], [0, 1, 2, 2], [0, 1, 2, 4], [0, 1, 2, -1], (0, 1, 2, 3), [0, True, 2, 3], [False, 1, 2, 3],
                 [0, 1, 2, None], [0, 1, 2, [3]], [0, 1, 2, "3"], [], {0: 1, 1: 2, 2: 3, 3: 0}]
        for thing in wrong + odd_things():
            self.assertIs(is_order(net, thing), False, thing)
        order_in(net).clear()
        self.assertTrue(good_order(net, order_in(net)))

    def test_nets_by_chance(self):
        luck = chance(63)
        found = {True: 0, False: 0}
        for _ in range(500):
            net = random_net(luck, luck.choice([8, 14, 22]))
            ring = has_ring(net)
            self.check(net, ring)
            found[ring] += 1
            rows = net.numbers()
            for _ in range(3):
                luck.shuffle(rows)
                self.assertIs(is_order(net, rows), good_order(net, rows))
        self.assertGreater(min(found.values()), 100)

    def test_forty_ports(self):
        luck = chance(64)
        begun = time.process_time()
        for _ in range(400):
            net = random_net(luck, 40)
            ring, order = ring_in(net), order_in(net)
            self.assertIs(ring is None, order is not None)
            self.assertTrue(good_order(net, order) if ring is None else good_ring(net, ring))
        self.assertLess(time.process_time() - begun, 20)

    def test_orders_of_great_nets(self):
        begun = time.process_time()
        # Copies of copies of a number, all put together again, and functions within one another.
        many = 120
        net = net_of([("def", "two")] + [("copy", "n")] * many + [("pair", "n", "n")] * many, [((0, 0), (1, 0))])
        for n in range(1, many):
            net.tie((n, 2), (n + 1, 0))
        for n in range(1, many + 1):
            net.tie((n, 1), (many + n, 1))
        for n in range(1, many):
            net.tie((many + n, 2), (many + n + 1, 0))
        net.tie((many, 2), (2 * many, 2))
        order = order_in(net)
        self.assertTrue(good_order(net, order))
        self.assertIs(is_order(net, order), True)
        self.assertIs(is_order(net, net.numbers()[::-1]), False)
        end = net.put(("make", "s"), 1)
        net.tie((end, 0), (end, 1))
        self.assertIsNone(order_in(net))
        run = Run(Book(read_program("(= t (leaf) (node t t)) (@ grow t (# node @grow @grow))")), "grow")
        run.go(most=400)
        net = run.net_now()
        self.assertEqual(len(net), 802)
        order = order_in(net)
        self.assertIs(is_order(net, order), True)
        self.assertTrue(all(is_order(net, order[at:] + order[:at]) for at in range(0, 800, 50)))
        self.assertIsNone(ring_in(net))
        # A thousand functions within one another, what they name brought together at the end.
        many = 1000
        net = net_of([("fun", "n", "n")] * many + [("pair", "n", "n")] * many, [((n, 2), (n + 1, 0)) for n in range(many - 1)])
        for n in range(many):
            net.tie((n, 1), (many + n, 1))
        for n in range(many, 2 * many - 1):
            net.tie((n, 2), (n + 1, 0))
        net.tie((many - 1, 2), (many, 0))
        order = order_in(net)
        self.assertIs(is_order(net, order), True)
        self.assertIsNone(ring_in(net))
        self.assertIs(is_order(net, order[::-1]), False)
        # Far more ports than are handed in: a ring of all calls.
        net = net_of([("call", "n", "n")] * many, [((n, 0), ((n + 1) % many, 2)) for n in range(many)])
        self.assertIs(is_ring(net, ring_in(net)), True)
        self.assertIsNone(order_in(net))
        self.assertLess(time.process_time() - begun, 20)


def random_net(luck, most):
    """A net with so many ports at most, many of them forks' or few."""
    rows = [("fun", "n", "n"), ("part", "n", "n"), ("copy", "n"), ("call", "n", "n"), ("pair", "n", "n"), ("make", "s"), ("make", "cons"),
            ("make", "node"), ("drop", "n"), ("def", "two"), ("out", "n"), ("choose", 0)]
    net = Net()
    forks = luck.random()
    while True:
        symbol = luck.choice(rows[:3] if luck.random() < forks else rows)
        if len(ports(net)) + BOOK.lower(symbol) + 1 > most:
            break
        net.put(symbol, BOOK.lower(symbol))
    free = ports(net)
    luck.shuffle(free)
    free = free[:luck.choice([len(free), len(free) * 2 // 3])]
    while len(free) > 1:
        net.tie(free.pop(), free.pop())
    return net


class OfRuns(unittest.TestCase):
    """At each moment of a run the wires fit, there is an order, and the way from out ends at what can be done."""

    def test_runs_by_chance(self):
        luck = chance(65)
        for program in programs(luck, 25, wide=50, deep=10, wild=0.2):
            for tight in (False, True):
                book = Book(program, tight=tight)
                for f in [f for f, kind, _ in program[1] if is_shown(kind)]:
                    run = Run(book, f)
                    for _ in range(20):
                        net = run.net_now()
                        self.assertEqual(unfit(book, net), [])
                        self.assertIs(is_order(net, order_in(net)), True)
                        self.assertIsNone(ring_in(net))
                        agents, word = way(net)
                        self.assertIn(word, ("shown", "meets", "opens"))
                        if word != "shown":
                            move = agents[-1:] if word == "opens" else sorted(agents[-2:])
                            self.assertIn(tuple(move), run.moves_now())
                        if not run.moves_now():
                            break
                        run.do(luck.choice(run.moves_now()))


if __name__ == "__main__":
    unittest.main()
