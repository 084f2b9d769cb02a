"""Other ways to what oncewire.meaning and oncewire.runs tell, written for the tests alone."""

import sys
from collections import Counter

sys.setrecursionlimit(20000)


class Endless(Exception):
    """More steps than asked for."""


def reckoned(program, f, most):
    """The worth of a def and its counts, by calls within one another."""
    terms = {name: term for name, _, term in program[1]}
    counts = Counter()

    def step(*name):
        counts[name] += 1
        if sum(counts.values()) > most:
            raise Endless()

    def worth(term, scope):
        if isinstance(term, str):
            return scope[term]
        sign = term[0]
        if sign == "@":
            step("open", term[1])
            return worth(terms[term[1]], {})
        if sign == "^":
            return lambda given: worth(term[3], {**scope, term[1]: given})
        if sign == "!":
            function, given = worth(term[1], scope), worth(term[2], scope)
            step("call")
            return function(given)
        if sign == "&":
            return ("&", worth(term[1], scope), worth(term[2], scope))
        if sign == "#":
            return ("#", term[1], tuple(worth(one, scope) for one in term[2]))
        first = worth(term[1], scope)
        if sign == "/":
            step("part")
            return worth(term[4], {**scope, term[2]: first[1], term[3]: first[2]})
        if sign == "?":
            step("choice", first[1])
            (names, chosen), = [(names, chosen) for maker, names, chosen in term[2] if maker == first[1]]
            return worth(chosen, {**scope, **dict(zip(names, first[2]))})
        for maker in makers(first):
            step("copy" if sign == "+" else "drop", maker)
        if sign == "+":
            return worth(term[4], {**scope, term[2]: first, term[3]: first})
        return worth(term[2], scope)

    return worth(("@", f), {}), dict(counts)


def makers(worth):
    """All makers in a data kind's worth."""
    told = [worth[1]]
    for inner in worth[2]:
        told += makers(inner)
    return told


def read_worth(net, port=(0, 0)):
    """The worth that stands at a port's end, and the agents that show it."""
    agent, place = net.end_of(port)
    assert place == 0
    sign, *more = net.symbol_of(agent)
    assert sign in ("make", "pair"), sign
    rows = [read_worth(net, (agent, at)) for at in range(1, net.lower_of(agent) + 1)]
    inner = tuple(worth for worth, _ in rows)
    worth = ("&", *inner) if sign == "pair" else ("#", more[0], inner)
    return worth, [agent] + [one for _, agents in rows for one in agents]


def merged(counts, more):
    """Counts put together."""
    return dict(Counter(counts) + Counter(more))


class OtherNet:
    """A net as dicts, its wires as rows of two ends and a moment; wires are joined one joint at a time."""

    def __init__(self, net):
        self.agents = {n: (net.symbol_of(n), net.lower_of(n)) for n in net.numbers()}
        self.following = net.copy().put(("x",))
        self.moments = {n: 0 for n in self.agents}
        self.wires = []
        for n in self.agents:
            for place in range(self.agents[n][1] + 1):
                end = net.end_of((n, place))
                if end is not None and (n, place) < end:
                    self.wires.append(((n, place), end, 0))

    def ends(self):
        told = {}
        for one, other, _ in self.wires:
            told[one], told[other] = other, one
        return told

    def lay(self, agents, piece):
        """Lays a piece in the place of these, the giver ahead; the move's moment."""
        moment = 1 + max(self.moments[n] for n in agents)
        if len(agents) == 2:
            heads = {(n, 0) for n in agents}
            (old,), = [[m] for one, other, m in self.wires if {one, other} == heads]
            moment = max(moment, old + 1)
            self.wires = [row for row in self.wires if {row[0], row[1]} != heads]
        names = {-1 - at: n for at, n in enumerate(agents)}
        first = self.following
        for at, (symbol, lower) in enumerate(piece[0]):
            self.agents[first + at] = (symbol, lower)
            self.moments[first + at] = moment
        self.following = first + len(piece[0])

        def named(port):
            return ("joint", names[port[0]], port[1]) if port[0] < 0 else (first + port[0], port[1])

        rows = [tuple(("joint", *x) if x[0] in agents else x for x in row[:2]) + (row[2],) for row in self.wires]
        rows += [(named(one), named(other), moment) for one, other in piece[1]]
        joints = {x for row in rows for x in row[:2] if x[0] == "joint"}
        for joint in joints:
            here = [row for row in rows if joint in row[:2]]
            rows = [row for row in rows if joint not in row[:2]]
            if len(here) == 2:
                ends = [row[1] if row[0] == joint else row[0] for row in here]
                rows.append((ends[0], ends[1], max(here[0][2], here[1][2])))
        self.wires = rows
        for n in agents:
            del self.agents[n]
        return moment

    def same(self, net):
        """Whether a net is this one."""
        if net.numbers() != sorted(self.agents) or net.copy().put(("x",)) != self.following:
            return False
        ends = self.ends()
        for n, (symbol, lower) in self.agents.items():
            if (net.symbol_of(n), net.lower_of(n)) != (symbol, lower):
                return False
            if any(net.end_of((n, place)) != ends.get((n, place)) for place in range(lower + 1)):
                return False
        return True


def port_kind(program, book_kinds, symbol, place):
    """What a port gives or takes, by point 17; book_kinds are the choices' kinds."""
    sign, *more = symbol
    fields = {maker: (data, row) for data, makers_of in program[0] for maker, row in makers_of}
    if sign == "out":
        return "-", more[0]
    if sign in ("fun", "call"):
        a, b = more
        row = [("+", (">", a, b)), ("+", a), ("-", b)]
    elif sign in ("pair", "part"):
        a, b = more
        row = [("+", ("*", a, b)), ("-", a), ("-", b)]
    elif sign == "make":
        data, parts = fields[more[0]]
        row = [("+", data)] + [("-", part) for part in parts]
    elif sign == "choose":
        chosen, told, held = book_kinds[more[0]]
        row = [("-", chosen), ("+", told)] + [("-", kind) for kind in held]
    elif sign == "copy":
        row = [("-", more[0]), ("+", more[0]), ("+", more[0])]
    elif sign == "drop":
        row = [("-", more[0])]
    else:
        row = [("+", {f: kind for f, kind, _ in program[1]}[more[0]])]
    if sign in ("call", "part"):
        row = [({"+": "-", "-": "+"}[way], kind) for way, kind in row]
    return row[place]


def choice_kinds(program, rows):
    """For each choice of a program its data kind, its cases' kind, the kinds of what it holds; rows are let_by's."""
    told = []
    for f, _, term in program[1]:
        at = [0]

        def walk(one, scope):
            mine = at[0]
            at[0] += 1
            if isinstance(one, str) or one[0] == "@":
                return
            kind = rows[f][mine][0]
            if one[0] == "^":
                walk(one[3], {**scope, one[1]: one[2]})
            elif one[0] in ("/", "+"):
                inner = rows[f][at[0]][0]
                walk(one[1], scope)
                kinds = inner[1:] if one[0] == "/" else (inner, inner)
                walk(one[4], {**scope, one[2]: kinds[0], one[3]: kinds[1]})
            elif one[0] == "#":
                for inner in one[2]:
                    walk(inner, scope)
            elif one[0] == "?":
                data = rows[f][at[0]][0]
                number = len(told)
                told.append(None)
                walk(one[1], scope)
                fields = [row for name, makers_of in program[0] if name == data for _, row in makers_of]
                for number_of_case, (_, names, inner) in enumerate(one[2]):
                    if number_of_case == 0:
                        held = [name for name in rows[f][at[0]][1] if name not in names]
                        told[number] = (data, kind, [scope[name] for name in held])
                    walk(inner, {**scope, **dict(zip(names, fields[number_of_case]))})
            else:
                walk(one[1], scope)
                walk(one[2], scope)

        walk(term, {})
    return told
