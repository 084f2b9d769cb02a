"""Points 2, 10 and 11: oncewire.nets."""

import copy
import itertools
import unittest

from oncewire.errors import NoAgent, NoPort, OnceError, Tied
from oncewire.nets import Net, alike, is_pairing, moves

from samples import chance, nested, odd_things, spoilt

BIG = 10 ** 40 - 1


def net_of(rows, ties):
    """A net of agents, each by its symbol's text and how many lower ports, numbered from 0, and ties."""
    net = Net()
    for sign, lower in rows:
        net.put((sign,), lower)
    for one, other in ties:
        net.tie(one, other)
    return net


def small():
    """Three agents, two ties."""
    return net_of([("a", 1), ("b", 2), ("c", 0)], [((0, 0), (1, 0)), ((1, 2), (2, 0))])


def told_of(net):
    """All that a net tells."""
    rows = [(n, net.symbol_of(n), net.lower_of(n)) for n in net.numbers()]
    ends = [(n, place, net.end_of((n, place))) for n, _, lower in rows for place in range(lower + 1)]
    return (rows, ends, len(net), moves(net), net.copy().put(("x",)))


class Agents(unittest.TestCase):

    def test_numbers_rise_from_0(self):
        net = Net()
        self.assertEqual(len(net), 0)
        self.assertEqual(net.numbers(), [])
        self.assertEqual([net.put(("a",)), net.put(("b", 1), 2), net.put(("a",), lower=1)], [0, 1, 2])
        self.assertEqual(net.numbers(), [0, 1, 2])
        self.assertEqual(len(net), 3)

    def test_symbols_and_lower_ports(self):
        net = Net()
        rows = [(("a",), 0), (("b", 1, None, True, ("c", (2,)), BIG), 7), (("out", (">", "x", "y")), 1), (("",), 40)]
        for symbol, lower in rows:
            agent = net.put(symbol=symbol, lower=lower)
            self.assertEqual(net.symbol_of(agent), symbol)
            self.assertEqual(net.symbol_of(agent=agent), symbol)
            self.assertEqual(net.lower_of(agent=agent), lower)
            self.assertIsNone(net.end_of(port=(agent, lower)))
            with self.assertRaises(NoPort):
                net.end_of((agent, lower + 1))
        self.assertEqual(net.lower_of(net.put(("d",))), 0)

    def test_at(self):
        net = Net()
        self.assertEqual(net.put(("a",), at=5), 5)
        self.assertEqual(net.put(("a",)), 6)
        self.assertEqual(net.put(("a",), 0, at=7), 7)
        self.assertEqual(net.put(("a",), 0, at=None), 8)
        self.assertEqual(net.put(("a",), 1, at=BIG), BIG)
        self.assertEqual(net.put(("a",)), BIG + 1)
        self.assertEqual(net.numbers(), [5, 6, 7, 8, BIG, BIG + 1])
        with self.assertRaises(TypeError):
            net.put(("a",), 0, BIG + 2)

    def test_at_refused(self):
        net = Net()
        self.assertEqual(net.put(("a",), at=0), 0)
        self.assertEqual(net.put(("a",), at=3), 3)
        net.take_away(3)
        kept = told_of(net)
        for at in [0, 1, 2, 3, -1, -BIG, True, False, "4", "", (4,), [4], {4: 4}, (), []]:
            with self.assertRaises(NoAgent):
                net.put(("a",), at=at)
            self.assertEqual(told_of(net), kept)
        for at in odd_things():
            if type(at) is int and at >= 4 or at is None:
                continue
            with self.assertRaises(NoAgent):
                net.put(("a",), 1, at=at)
        self.assertEqual(told_of(net), kept)
        self.assertEqual(net.put(("a",), at=4), 4)

    def test_a_number_is_never_used_again(self):
        net = small()
        net.take_away(2)
        self.assertEqual(net.put(("a",)), 3)
        net.take_away(3)
        net.take_away(0)
        self.assertEqual(net.put(("a",)), 4)
        for agent in net.numbers():
            net.take_away(agent)
        self.assertEqual(len(net), 0)
        self.assertEqual(net.put(("a",)), 5)
        other = Net()
        other.put(("a",), at=9)
        other.take_away(9)
        self.assertEqual(other.put(("a",)), 10)

    def test_no_agent_of_anything(self):
        net = small()
        kept = told_of(net)
        things = [3, -1, BIG, "0", "a", (0,), (0, 0), [0], {0: 0}, True, False] + odd_things()
        for thing in things:
            if type(thing) is int and 0 <= thing < 3:
                continue
            for ask in (net.symbol_of, net.lower_of, net.take_away):
                with self.assertRaises(NoAgent):
                    ask(thing)
        self.assertEqual(told_of(net), kept)
        net.take_away(1)
        for ask in (net.symbol_of, net.lower_of, net.take_away):
            with self.assertRaises(NoAgent):
                ask(1)

    def test_lists_are_new(self):
        net = small()
        net.numbers().append(9)
        net.numbers().reverse()
        self.assertEqual(net.numbers(), [0, 1, 2])


class Ties(unittest.TestCase):

    def test_each_is_the_others_end(self):
        net = small()
        self.assertEqual(net.end_of((0, 0)), (1, 0))
        self.assertEqual(net.end_of((1, 0)), (0, 0))
        self.assertEqual(net.end_of((1, 2)), (2, 0))
        self.assertEqual(net.end_of((2, 0)), (1, 2))
        self.assertIsNone(net.end_of((0, 1)))
        self.assertIsNone(net.tie(port=(1, 1), other=(0, 1)))
        self.assertEqual(net.end_of((0, 1)), (1, 1))

    def test_two_ports_of_one_agent(self):
        net = net_of([("a", 2)], [((0, 2), (0, 1))])
        self.assertEqual(net.end_of((0, 1)), (0, 2))
        self.assertEqual(net.end_of((0, 2)), (0, 1))
        self.assertIsNone(net.end_of((0, 0)))
        net.take_away(0)
        self.assertEqual(len(net), 0)

    def test_tied(self):
        net = small()
        kept = told_of(net)
        rows = [((0, 0), (1, 0)), ((1, 0), (0, 0)), ((0, 0), (0, 1)), ((0, 1), (0, 0)), ((2, 0), (1, 1)), ((1, 1), (1, 1)),
                ((0, 1), (0, 1)), ((0, 0), (0, 0)), ((0, 0), (1, 2))]
        for one, other in rows:
            with self.assertRaises(Tied):
                net.tie(one, other)
        self.assertEqual(told_of(net), kept)

    def test_no_port_of_anything(self):
        net = small()
        kept = told_of(net)
        things = [(0, 2), (0, -1), (3, 0), (-1, 0), (2, 1), (0, BIG), (BIG, 0), (0,), (0, 0, 0), [0, 0], "00", ("0", 0), (0, "0"),
                  (True, 0), (0, True), (False, False), (0, None), (None, 0), ((0,), 0), (0, (0,)), ([], 0), (0, []), ({}, 0),
                  {0: 0}, 0, None, True] + odd_things()
        for thing in things:
            with self.assertRaises(NoPort):
                net.end_of(thing)
            # Also ahead of Tied, whichever of the two it is.
            for good in ((0, 1), (0, 0)):
                with self.assertRaises(NoPort):
                    net.tie(thing, good)
                with self.assertRaises(NoPort):
                    net.tie(good, thing)
            with self.assertRaises(NoPort):
                net.tie(thing, thing)
        self.assertEqual(told_of(net), kept)

    def test_ports_of_an_agent_that_is_gone(self):
        net = small()
        net.take_away(1)
        with self.assertRaises(NoPort):
            net.end_of((1, 0))
        with self.assertRaises(NoPort):
            net.tie((1, 0), (0, 0))
        self.assertIsNone(net.end_of((0, 0)))
        self.assertIsNone(net.end_of((2, 0)))
        net.tie((0, 0), (2, 0))
        self.assertEqual(net.end_of((2, 0)), (0, 0))

    def test_taken_away_beside_itself(self):
        net = net_of([("a", 2), ("b", 1)], [((0, 0), (0, 1)), ((0, 2), (1, 0)), ])
        self.assertIsNone(net.take_away(agent=0))
        self.assertEqual(net.numbers(), [1])
        self.assertIsNone(net.end_of((1, 0)))


class Copies(unittest.TestCase):

    def test_go_on_by_themselves(self):
        net = small()
        net.take_away(2)
        other = net.copy()
        self.assertIsInstance(other, Net)
        self.assertEqual(other, net)
        self.assertEqual(other.put(("d",), 1), 3)
        other.tie((3, 0), (0, 1))
        self.assertEqual(net.numbers(), [0, 1])
        self.assertIsNone(net.end_of((0, 1)))
        self.assertEqual(net.put(("e",)), 3)
        net.take_away(0)
        self.assertEqual(other.end_of((0, 0)), (1, 0))
        self.assertEqual(other.end_of((3, 0)), (0, 1))
        self.assertNotEqual(other, net)

    def test_keep_the_next_number(self):
        net = Net()
        net.put(("a",), at=8)
        net.take_away(8)
        other = net.copy().copy()
        self.assertEqual(len(other), 0)
        with self.assertRaises(NoAgent):
            other.put(("a",), at=8)
        self.assertEqual(other.put(("a",)), 9)
        self.assertEqual(net.put(("a",)), 9)


class Equal(unittest.TestCase):

    def test_equal(self):
        self.assertTrue(small() == small())
        self.assertFalse(small() != small())
        self.assertTrue(Net() == Net())
        net = net_of([("a", 1), ("b", 2), ("c", 0)], [((2, 0), (1, 2)), ((1, 0), (0, 0))])
        self.assertTrue(net == small())

    def test_the_next_number_is_left_out_of_account(self):
        net = small()
        net.put(("d",))
        net.take_away(3)
        self.assertTrue(net == small())

    def test_unlike(self):
        rows = [("a", 1), ("b", 2), ("c", 0)]
        ties = [((0, 0), (1, 0)), ((1, 2), (2, 0))]
        others = [
            net_of(rows, ties[:1]), net_of(rows, ties + [((0, 1), (1, 1))]), net_of(rows[:2], ties[:1]), net_of(rows + [("c", 0)], ties),
            net_of([("a", 2)] + rows[1:], ties), net_of([("e", 1)] + rows[1:], ties), net_of(rows, [ties[0], ((1, 1), (2, 0))]), Net(),
        ]
        moved = Net()
        for at, (sign, lower) in enumerate(rows):
            moved.put((sign,), lower, at=at + 1)
        moved.tie((1, 0), (2, 0))
        moved.tie((2, 2), (3, 0))
        for other in others + [moved]:
            self.assertFalse(small() == other)
            self.assertFalse(other == small())
            self.assertTrue(small() != other)

    def test_a_truth_is_no_whole_number(self):
        one, other, third = Net(), Net(), Net()
        one.put(("a", 1))
        other.put(("a", True))
        third.put(("a", (1,)))
        self.assertFalse(one == other)
        self.assertFalse(one == third)
        self.assertIsNone(alike(one, other))
        self.assertIs(is_pairing(one, other, {0: 0}), False)

    def test_things_of_other_kinds(self):
        for thing in odd_things() + [OnceError("x"), small, Net]:
            self.assertFalse(small() == thing)
            self.assertFalse(Net() == thing)
            self.assertTrue(small() != thing)


class Moves(unittest.TestCase):

    def test_heads_that_face_one_another(self):
        net = net_of([("a", 1), ("b", 1), ("c", 0), ("d", 0), ("e", 1)],
                     [((3, 0), (1, 0)), ((0, 0), (2, 0)), ((0, 1), (1, 1)), ((4, 0), (4, 1))])
        self.assertEqual(moves(net), [(0, 2), (1, 3)])
        self.assertEqual(moves(net=net), [(0, 2), (1, 3)])

    def test_none(self):
        self.assertEqual(moves(Net()), [])
        self.assertEqual(moves(net_of([("a", 1), ("b", 1)], [((0, 0), (1, 1)), ((1, 0), (0, 1))])), [])
        self.assertEqual(moves(net_of([("a", 1), ("b", 1)], [((0, 1), (1, 1))])), [])
        self.assertEqual(moves(net_of([("out", 0), ("b", 0)], [((0, 0), (1, 0))])), [])
        self.assertEqual(moves(net_of([("a", 0), ("out", 0)], [((0, 0), (1, 0))])), [])
        self.assertEqual(moves(net_of([("out", 0), ("out", 0)], [((0, 0), (1, 0))])), [])

    def test_defs(self):
        self.assertEqual(moves(net_of([("def", 0)], [])), [(0,)])
        self.assertEqual(moves(net_of([("def", 0), ("def", 0)], [((0, 0), (1, 0))])), [(0,), (1,)])
        self.assertEqual(moves(net_of([("a", 0), ("def", 0), ("out", 0)], [((0, 0), (1, 0))])), [(1,)])
        self.assertEqual(moves(net_of([("out", 0), ("def", 0)], [((0, 0), (1, 0))])), [(1,)])
        self.assertEqual(moves(net_of([("a", 1), ("def", 0), ("b", 0)], [((0, 1), (1, 0)), ((0, 0), (2, 0))])), [(0, 2), (1,)])
        net = Net()
        net.put(("def", "f", "g", 3), 2)
        net.put(("outs",))
        net.put(("defs",))
        net.tie((1, 0), (2, 0))
        self.assertEqual(moves(net), [(0,), (1, 2)])

    def test_rising_and_new(self):
        net = Net()
        for at in range(40):
            net.put(("def" if at % 7 == 3 else "a",))
        for at in (0, 1, 2, 4, 5, 6, 8):
            net.tie((at, 0), (39 - at, 0))
        told = moves(net)
        self.assertEqual(told, sorted(told))
        self.assertEqual(told, [(0, 39), (2, 37), (3,), (4, 35), (5, 34), (6, 33), (10,), (17,), (24,), (31,), (38,)])
        told.clear()
        self.assertNotEqual(moves(net), [])


def renumbered(net, luck):
    """A net that is alike, its agents put in another order, and the pairing."""
    order = net.numbers()
    luck.shuffle(order)
    other = Net()
    pairing = {}
    for n in order:
        pairing[n] = other.put(net.symbol_of(n), net.lower_of(n), at=other.copy().put(("x",)) + luck.randrange(3))
    for n in order:
        for place in range(net.lower_of(n) + 1):
            end = net.end_of((n, place))
            if end is not None and (n, place) < end:
                other.tie((pairing[end[0]], end[1]), (pairing[n], place))
    return other, pairing


def random_net(luck, many, signs="ab", tied=0.8):
    """A net made by chance."""
    net = Net()
    for _ in range(many):
        sign = luck.choice(signs)
        net.put((sign,), "abcd".index(sign) if luck.random() < 0.9 else 1)
    ports = [(n, place) for n in net.numbers() for place in range(net.lower_of(n) + 1)]
    luck.shuffle(ports)
    while len(ports) > 1:
        one, other = ports.pop(), ports.pop()
        if luck.random() < tied:
            net.tie(one, other)
    return net


def pairs_all(net, other, pairing):
    """Whether a dict of agents to agents is a pairing, looked at another way."""
    def told(one, names):
        rows = {names[n]: (one.symbol_of(n), one.lower_of(n)) for n in one.numbers()}
        ends = {}
        for n in one.numbers():
            for place in range(one.lower_of(n) + 1):
                end = one.end_of((n, place))
                ends[(names[n], place)] = None if end is None else (names[end[0]], end[1])
        return rows, ends
    if sorted(pairing) != net.numbers() or sorted(pairing.values()) != other.numbers():
        return False
    return told(net, pairing) == told(other, {n: n for n in other.numbers()})


class Alike(unittest.TestCase):

    def check(self, one, other, are):
        for net, facing in ((one, other), (other, one)):
            found = alike(net, facing)
            if are:
                self.assertIs(type(found), dict)
                self.assertIs(is_pairing(net, facing, found), True)
                self.assertTrue(pairs_all(net, facing, found))
            else:
                self.assertIsNone(found)

    def test_alike(self):
        self.check(Net(), Net(), True)
        self.assertEqual(alike(net=Net(), other=Net()), {})
        self.check(small(), small(), True)
        self.assertEqual(alike(small(), small()), {0: 0, 1: 1, 2: 2})
        for seed in range(60):
            luck = chance(seed)
            net = random_net(luck, luck.randrange(1, 12), "abc")
            other, _ = renumbered(net, luck)
            self.check(net, other, True)

    def test_unlike_by_one_thing(self):
        rows = [("a", 1), ("b", 2), ("b", 2), ("c", 0)]
        ties = [((0, 0), (1, 0)), ((1, 2), (2, 0)), ((2, 1), (3, 0)), ((2, 2), (1, 1))]
        net = net_of(rows, ties)
        self.check(net, net_of(rows, ties[::-1]), True)
        others = [
            net_of(rows, ties[:3]), net_of(rows, ties[:3] + [((2, 2), (0, 1))]),
            net_of([("d", 1)] + rows[1:], ties), net_of([("a", 2)] + rows[1:], ties), net_of(rows + [("c", 0)], ties),
            net_of(rows[:3], ties[:2] + ties[3:]), net_of(rows, ties[:2] + [((2, 2), (3, 0)), ((2, 1), (1, 1))]),
        ]
        for other in others:
            self.check(net, other, False)

    def test_each_tie_each_symbol_each_port(self):
        luck = chance(3)
        net = random_net(luck, 9, "abc", tied=1.0)
        for n in net.numbers():
            for place in range(net.lower_of(n) + 1):
                end = net.end_of((n, place))
                if end is None:
                    continue
                other = Net()
                for m in net.numbers():
                    other.put(net.symbol_of(m), net.lower_of(m))
                for m in net.numbers():
                    for at in range(net.lower_of(m) + 1):
                        facing = net.end_of((m, at))
                        if facing is not None and (m, at) < facing and (n, place) not in ((m, at), facing):
                            other.tie((m, at), facing)
                self.check(net, other, False)
            for symbol, lower in ((("q",), net.lower_of(n)), (net.symbol_of(n), net.lower_of(n) + 1)):
                other = Net()
                for m in net.numbers():
                    if m == n:
                        other.put(symbol, lower)
                    else:
                        other.put(net.symbol_of(m), net.lower_of(m))
                for m in net.numbers():
                    for at in range(net.lower_of(m) + 1):
                        facing = net.end_of((m, at))
                        if facing is not None and (m, at) < facing:
                            other.tie((m, at), facing)
                self.check(net, other, False)

    def test_beside_all_ways_to_pair(self):
        luck = chance(4)
        both = [0, 0]
        for _ in range(400):
            many = luck.randrange(1, 6)
            signs = luck.choice(["b", "ab", "bc", "c"])
            net, other = random_net(luck, many, signs), random_net(luck, many, signs)
            ways = [dict(zip(net.numbers(), row)) for row in itertools.permutations(other.numbers())]
            good = [way for way in ways if pairs_all(net, other, way)]
            found = alike(net, other)
            self.assertEqual(found is not None, len(good) > 0)
            both[len(good) > 0] += 1
            if found is not None:
                self.assertIn(found, good)
            for way in ways:
                self.assertIs(is_pairing(net, other, way), way in good)
        self.assertGreater(min(both), 20)

    def test_rings(self):
        def ring(sizes):
            net = Net()
            for size in sizes:
                first = net.copy().put(("x",))
                for _ in range(size):
                    net.put(("a",), 1)
                for at in range(size):
                    net.tie((first + at, 1), (first + (at + 1) % size, 0))
            return net
        self.check(ring([6]), ring([6]), True)
        self.check(ring([6]), ring([3, 3]), False)
        self.check(ring([1, 5, 4]), ring([4, 1, 5]), True)
        self.check(ring([1, 5, 4]), ring([3, 2, 5]), False)
        self.check(ring([60] * 5 + [61]), ring([61] + [60] * 5), True)
        self.check(ring([60] * 5 + [61]), ring([59, 62] + [60] * 4), False)
        self.check(ring([1500, 1501]), ring([1501, 1500]), True)
        self.check(ring([1500, 1501]), ring([1499, 1502]), False)

    def test_rings_that_differ_far_from_where_one_begins(self):
        def marked(size, marks, turned=(), tied=()):
            net = Net()
            for at in range(size):
                net.put(("b" if at in marks else "a",), 2)
            for one, after in tied:
                net.tie((one, 2), (after, 2))
            for at in range(size):
                after = (at + 1) % size
                net.tie((at, 0 if at in turned else 1), (after, 1 if after in turned else 0))
            return net
        self.check(marked(60, (0, 25)), marked(60, (7, 32)), True)
        self.check(marked(60, (0, 25)), marked(60, (0, 35)), True)
        self.check(marked(60, (0, 25)), marked(60, (0, 28)), False)
        self.check(marked(60, (0, 20, 45)), marked(60, (0, 25, 45)), False)
        self.check(marked(60, (0,), (25,)), marked(60, (3,), (28,)), True)
        self.check(marked(60, (0,), (25,)), marked(60, (0,), (28,)), False)
        self.check(marked(60, (), (0, 20, 45)), marked(60, (), (0, 25, 45)), False)
        self.check(marked(60, (), (0, 20, 45)), marked(60, (), (1, 21, 46)), True)
        self.check(marked(60, (), (), [(0, 20)]), marked(60, (), (), [(7, 27)]), True)
        self.check(marked(60, (), (), [(0, 20)]), marked(60, (), (), [(0, 23)]), False)
        self.check(marked(60, (), (), [(0, 20), (30, 45)]), marked(60, (), (), [(0, 30), (20, 45)]), False)
        self.check(marked(60, (), (), [(0, 20), (30, 50)]), marked(60, (), (), [(10, 30), (40, 0)]), True)

    def test_many_agents(self):
        one, other = Net(), Net()
        for at in range(3000):
            one.put(("a" if at % 3 else "b",), 1)
            other.put(("a" if (at + 1) % 3 else "b",), 1)
        self.check(one, other, True)
        for at in range(2999):
            one.tie((at, 1), (at + 1, 0))
            other.tie((at, 1), (at + 1, 0))
        self.check(one, one.copy(), True)
        self.check(one, other, False)

    def test_coverings_that_are_not_alike(self):
        # Each agent sees the same wherever one goes from it: only a walk round tells these apart.
        luck = chance(8)
        differing = 0
        for _ in range(12):
            nets = []
            for _ in range(2):
                net = Net()
                for _ in range(40):
                    net.put(("a",), 3)
                for low, high in ((0, 1), (2, 3)):
                    row = list(range(40))
                    luck.shuffle(row)
                    for at, image in enumerate(row):
                        net.tie((at, low), (image, high))
                nets.append(net)
            differing += alike(nets[0], nets[1]) is None
            self.check(nets[0], renumbered(nets[0], luck)[0], True)
        self.assertGreater(differing, 10)

    def test_deep_symbols(self):
        one, other, third = Net(), Net(), Net()
        one.put(("a", nested(100, lambda x: (x,))))
        other.put(("a", nested(100, lambda x: (x,))))
        third.put(("a", nested(99, lambda x: (x,))))
        self.check(one, other, True)
        self.check(one, third, False)
        self.assertTrue(one == other)
        self.assertFalse(one == third)


class Pairings(unittest.TestCase):

    def test_of_anything(self):
        net = small()
        good = {0: 0, 1: 1, 2: 2}
        self.assertIs(is_pairing(net, net, good), True)
        self.assertIs(is_pairing(net=net, other=net, thing=good), True)
        things = [{}, {0: 0, 1: 1}, {0: 0, 1: 1, 2: 2, 3: 3}, {0: 0, 2: 2, 3: 1}, {0: 1, 1: 0, 2: 2}, {0: 0, 1: 1, 2: 1},
                  {0: 0, True: 1, 2: 2}, {False: 0, 1: 1, 2: 2}, {0: 0, 1: True, 2: 2}, {0: False, 1: 1, 2: 2}, {0: 0, 1: 1, 2: None},
                  {0: 0, 1: 1, 2: [2]}, {0: 0, 1: 1, 2: (2,)}, {0: 0, 1: 1, 2: "2"}, {"0": 0, "1": 1, "2": 2}, {0: 0, 1: 1, "2": 2},
                  {0: 0, 1: 1, 2: BIG}, {0: 0, 1: 1, BIG: 2}, {-1: 0, 1: 1, 2: 2}, {0: {}, 1: {}, 2: {}}, [0, 1, 2], [(0, 0), (1, 1), (2, 2)],
                  ((0, 0), (1, 1), (2, 2)), "012", 3]
        for thing in things + odd_things():
            self.assertIs(is_pairing(net, net, thing), False, thing)
        self.assertIs(is_pairing(Net(), Net(), {}), True)
        for thing in odd_things():
            self.assertIs(is_pairing(Net(), Net(), thing), thing == {})

    def test_spoilt(self):
        luck = chance(6)
        for _ in range(150):
            net = random_net(luck, luck.randrange(2, 7), "ab")
            other, pairing = renumbered(net, luck)
            self.assertIs(is_pairing(net, other, pairing), True)
            for _ in range(5):
                thing = dict(pairing)
                one, two = luck.choice(net.numbers()), luck.choice(net.numbers())
                thing[one], thing[two] = thing[two], thing[one]
                self.assertIs(is_pairing(net, other, thing), pairs_all(net, other, thing))
                thing[one] = spoilt((thing[one],), luck)
                self.assertIs(is_pairing(net, other, thing), False)

    def test_several_are_right(self):
        net = net_of([("a", 0)] * 3, [])
        for row in itertools.permutations(range(3)):
            self.assertIs(is_pairing(net, net, dict(zip(range(3), row))), True)

    def test_each_agent_just_once(self):
        three, two = net_of([("a", 0)] * 3, []), net_of([("a", 0)] * 2, [])
        for thing in ({0: 0, 1: 0, 2: 1}, {0: 1, 1: 1, 2: 1}, {0: 0, 1: 1}, {0: 0}, {}):
            self.assertIs(is_pairing(three, three, thing), False)
        for thing in ({0: 0, 1: 1}, {0: 0, 1: 1, 2: 1}, {0: 0, 1: 1, 2: 2}):
            self.assertIs(is_pairing(three, two, thing), False)
            self.assertIs(is_pairing(two, three, thing), False)
        self.assertIsNone(alike(three, two))
        # Tied: all that hangs together of the one is paired with one and the same of the other.
        four = net_of([("a", 1)] * 4, [((0, 1), (1, 1)), ((2, 1), (3, 1))])
        self.assertIs(is_pairing(four, four, {0: 0, 1: 1, 2: 0, 3: 1}), False)
        self.assertIs(is_pairing(four, four, {0: 2, 1: 3, 2: 0, 3: 1}), True)

    def test_untied_ports(self):
        tied = net_of([("a", 1), ("a", 1)], [((0, 1), (1, 1))])
        loose = net_of([("a", 1), ("a", 1)], [])
        self.assertIs(is_pairing(tied, loose, {0: 0, 1: 1}), False)
        self.assertIs(is_pairing(loose, tied, {0: 0, 1: 1}), False)
        self.assertIs(is_pairing(tied, tied, {0: 1, 1: 0}), True)

    def test_nothing_handed_in_is_changed(self):
        net, other = small(), small()
        thing = {0: 0, 1: 1, 2: 2}
        kept = copy.deepcopy(told_of(net))
        is_pairing(net, other, thing)
        alike(net, other)
        alike(net, other).clear()
        self.assertEqual(thing, {0: 0, 1: 1, 2: 2})
        self.assertEqual(told_of(net), kept)
        self.assertEqual(told_of(other), kept)
        self.assertEqual(alike(net, other), thing)


if __name__ == "__main__":
    unittest.main()
