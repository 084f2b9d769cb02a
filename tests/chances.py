"""Programs that are let by, made by chance."""

from oncewire.shapes import is_program, is_shown

DATAS = (
    ("nat", (("z", ()), ("s", ("nat",)))),
    ("bool", (("no", ()), ("yes", ()))),
    ("list", (("nil", ()), ("cons", ("nat", "list")))),
    ("tree", (("leaf", ("bool",)), ("node", ("tree", "nat", "tree")))),
)
BASES = {"nat": ("#", "z", ()), "bool": ("#", "no", ()), "list": ("#", "nil", ()),
         "tree": ("#", "leaf", (("#", "yes", ()),))}
KINDS = ["nat", "nat", "bool", "list", "tree", ("*", "nat", "bool"), (">", "nat", "nat"), (">", "bool", ("*", "nat", "nat")),
         (">", (">", "nat", "bool"), "bool"), ("*", (">", "nat", "list"), "bool"), ("*", "tree", ("*", "nat", "nat")),
         (">", "nat", (">", "nat", "nat")), (">", "list", "nat"), (">", "tree", "tree")]


class Maker:
    """Makes terms in which each name of a scope is used just once; defs are those that may be called."""

    def __init__(self, luck, defs, wide):
        self.luck = luck
        self.defs = defs
        self.left = wide

    def fresh(self, scope, many=1):
        free = [name for name in "abcdefghijklmnopqrst" if name not in [x for x, _ in scope]]
        return self.luck.sample(free, many)

    def split(self, scope, many):
        rows = [[] for _ in range(many)]
        for one in scope:
            self.luck.choice(rows).append(one)
        return rows

    def finish(self, kind, scope):
        """A small term of a kind that uses all names."""
        if scope:
            (name, given), *rest = scope
            if given == kind and not rest:
                return name
            return self.used_up(name, given, rest, lambda more: self.finish(kind, more))
        if isinstance(kind, str):
            return self.value(kind, 3)
        if kind[0] == "*":
            return ("&", self.finish(kind[1], []), self.finish(kind[2], []))
        name, = self.fresh([])
        return ("^", name, kind[1], self.finish(kind[2], [(name, kind[1])]))

    def value(self, data, deep):
        """A worth of a data kind."""
        if deep == 0 or self.luck.random() < 0.3:
            return BASES[data]
        maker, fields = self.luck.choice(dict(DATAS)[data])
        return ("#", maker, tuple([self.value(field, deep - 1) for field in fields]))

    def used_up(self, term, kind, scope, then):
        """A term of this kind used up; then makes what comes behind it of the scope that it gets."""
        if isinstance(kind, str):
            return ("-", term, then(scope))
        if kind[0] == ">":
            return self.used_up(("!", term, self.finish(kind[1], [])), kind[2], scope, then)
        x, y = self.fresh(scope, 2)
        return ("/", term, x, y, then(scope + [(x, kind[1]), (y, kind[2])]))

    def term(self, kind, scope, deep):
        """A term of a kind that uses all names."""
        self.left -= 1
        if self.left < 0 or deep <= 0 or len(scope) > 7:
            return self.finish(kind, scope)
        ways = [self.called, self.chosen, self.bound, self.named, self.made, self.made]
        told = self.luck.choice(ways)(kind, scope, deep - 1)
        return self.made(kind, scope, deep - 1) if told is None else told

    def named(self, kind, scope, deep):
        if len(scope) == 1 and scope[0][1] == kind:
            return scope[0][0]
        rows = [f for f, told in self.defs if told == kind]
        if rows and not scope:
            return ("@", self.luck.choice(rows))
        rows = [(f, told) for f, told in self.defs if told[0] == ">" and told[2] == kind]
        if rows:
            f, told = self.luck.choice(rows)
            return ("!", ("@", f), self.term(told[1], scope, deep))
        return None

    def called(self, kind, scope, deep):
        given = self.luck.choice(KINDS[:7])
        one, other = self.split(scope, 2)
        name, = self.fresh(one)
        return ("!", ("^", name, given, self.term(kind, one + [(name, given)], deep - 1)), self.term(given, other, deep))

    def chosen(self, kind, scope, deep):
        data, makers = self.luck.choice(DATAS)
        one, other = self.split(scope, 2)
        cases = []
        for maker, fields in makers:
            names = self.fresh(other, len(fields))
            cases.append((maker, tuple(names), self.term(kind, other + list(zip(names, fields)), deep - 1)))
        return ("?", self.term(data, one, deep), tuple(cases))

    def bound(self, kind, scope, deep):
        if not scope:
            return None
        at = self.luck.randrange(len(scope))
        (name, given), rest = scope[at], scope[:at] + scope[at + 1:]
        if isinstance(given, str) and self.luck.random() < 0.7:
            x, y = self.fresh(rest, 2)
            return ("+", name, x, y, self.term(kind, rest + [(x, given), (y, given)], deep))
        return self.used_up(name, given, rest, lambda more: self.term(kind, more, deep - 1))

    def made(self, kind, scope, deep):
        if isinstance(kind, str):
            maker, fields = self.luck.choice(dict(DATAS)[kind])
            if not fields and scope:
                return self.finish(kind, scope)
            rows = self.split(scope, max(1, len(fields)))
            return ("#", maker, tuple(self.term(field, row, deep) for field, row in zip(fields, rows)))
        if kind[0] == "*":
            one, other = self.split(scope, 2)
            return ("&", self.term(kind[1], one, deep), self.term(kind[2], other, deep))
        name, = self.fresh(scope)
        return ("^", name, kind[1], self.term(kind[2], scope + [(name, kind[1])], deep))


def recursive(maker, f, kind, deep):
    """A term of functions of numbers, of rows or of trees, that calls itself with what is smaller."""
    _, given, told = kind
    cases = []
    for name, fields in dict(DATAS)[given]:
        names = maker.fresh([], len(fields))
        scope = list(zip(names, fields))
        again = [name for name, field in scope if field == given]
        scope = [(name, field) for name, field in scope if field != given]
        results = maker.fresh(list(zip(names, fields)), len(again))
        inner = maker.term(told, scope + [(r, told) for r in results], deep)
        for r, name_of_part in zip(results, again):
            inner = ("!", ("^", r, told, inner), ("!", ("@", f), name_of_part))
        cases.append((name, tuple(names), inner))
    return ("^", "n", given, ("?", "n", tuple(cases)))


def programs(luck, many, wide=14, deep=7, wild=0.0):
    """So many programs; wild is the chance of a def that may call any def."""
    told = []
    while len(told) < many:
        heads = [("abcdefgh"[at], luck.choice(KINDS)) for at in range(luck.randrange(2, 6))]
        if not any(is_shown(kind) for _, kind in heads):
            continue
        defs = []
        for at, (f, kind) in enumerate(heads):
            maker = Maker(luck, heads if luck.random() < wild else heads[:at], wide)
            if kind[0] == ">" and kind[1] in dict(DATAS) and luck.random() < 0.5:
                term = recursive(maker, f, kind, deep)
            else:
                term = maker.term(kind, [], deep)
            defs.append((f, kind, term))
        program = (DATAS, tuple(defs))
        if is_program(program):
            told.append(program)
    return told
