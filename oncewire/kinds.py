"""Kinds of terms: each part's kind and the names that it uses, or the first fault on the way."""

from oncewire.errors import NoKind
from oncewire.shapes import are_unlike, is_kind


class Look:
    """One look at a whole term: what the program tells, and a row for each part that was come to."""

    def __init__(self, program, name):
        datas, defs = program
        self.name = name
        self.rows = []
        self.datas = {data: makers for data, makers in datas}
        self.makers = {maker: (data, fields) for data, makers in datas for maker, fields in makers}
        self.defs = {f: kind for f, kind, _ in defs}

    def need(self, holds, at, why):
        """Refuses the part of this number where what it needs does not hold."""
        if not holds:
            raise NoKind(self.name, at, why)


def is_of_datas(kind, datas):
    """Whether all data kinds that stand in a kind are some of these."""
    if isinstance(kind, str):
        return kind in datas
    return is_of_datas(kind[1], datas) and is_of_datas(kind[2], datas)


def kinding(program, term, *, scope=()):
    """A term's kinding: for each part its kind and the names that it uses."""
    look = Look(program, None)
    look_at(look, term, dict(scope))
    return look.rows


def is_kinding(program, term, thing, *, scope=()):
    """Whether a thing is the kinding of a term."""
    try:
        told = kinding(program, term, scope=scope)
    except NoKind:
        return False
    return thing == told


def let_by(program):
    """The kindings of a program's defs, where it is let by."""
    told = {}
    for name, kind, term in program[1]:
        look = Look(program, name)
        look.need(is_of_datas(kind, look.datas), 0, "data")
        found, _ = look_at(look, term, {})
        look.need(found == kind, 0, "kind")
        told[name] = look.rows
    return told


def look_at(look, term, scope):
    """A term's kind and the names that it uses; the rows of it and of its parts are put."""
    at = len(look.rows)
    look.rows.append(())
    if isinstance(term, str):
        look.need(term in scope, at, "name")
        row = (scope[term], (term,))
    else:
        action = LOOKS[term[0]]
        row = action(look, at, term, scope)
    look.rows[at] = row
    return row


def look_at_def(look, at, term, _):
    """A def's kind, as the program tells it."""
    look.need(term[1] in look.defs, at, "def")
    return (look.defs[term[1]], ())


def look_at_function(look, at, term, scope):
    """A function's kind."""
    _, name, given, inner = term
    look.need(is_of_datas(given, look.datas), at, "data")
    told, used = look_at(look, inner, widened(scope, (name,), (given,)))
    kind = (">", given, told)
    look.need(is_kind(kind), at, "kind")
    look.need(name in used, at, "unused")
    return (kind, without(used, (name,)))


def look_at_call(look, at, term, scope):
    """A call's kind."""
    kind, used = look_at(look, term[1], scope)
    given, others = look_at(look, term[2], scope)
    look.need(is_made_by(kind, ">") and kind[1] == given, at, "kind")
    look.need(are_apart(used, others), at, "twice")
    return (kind[2], used + others)


def look_at_pair(look, at, term, scope):
    """A pair's kind."""
    one, used = look_at(look, term[1], scope)
    other, others = look_at(look, term[2], scope)
    kind = ("*", one, other)
    look.need(is_kind(kind), at, "kind")
    look.need(are_apart(used, others), at, "twice")
    return (kind, used + others)


def look_at_parting(look, at, term, scope):
    """The kind of the term in which a pair is parted."""
    kind, used = look_at(look, term[1], scope)
    look.need(is_made_by(kind, "*"), at, "kind")
    return look_at_two_named(look, at, term, scope, (kind[1], kind[2]), used)


def look_at_copy(look, at, term, scope):
    """The kind of the term in which a copy is told."""
    kind, used = look_at(look, term[1], scope)
    look.need(isinstance(kind, str), at, "kind")
    return look_at_two_named(look, at, term, scope, (kind, kind), used)


def look_at_two_named(look, at, term, scope, kinds, used):
    """The kind of the term behind two names of these kinds; used are the names of the term ahead."""
    names = (term[2], term[3])
    kind, inside = look_at(look, term[4], widened(scope, names, kinds))
    others = without(inside, names)
    look.need(are_apart(used, others), at, "twice")
    look.need(all([name in inside for name in names]), at, "unused")
    return (kind, used + others)


def look_at_drop(look, at, term, scope):
    """The kind of the term behind a drop."""
    kind, used = look_at(look, term[1], scope)
    look.need(isinstance(kind, str), at, "kind")
    told, others = look_at(look, term[2], scope)
    look.need(are_apart(used, others), at, "twice")
    return (told, used + others)


def look_at_maker(look, at, term, scope):
    """A maker's data kind."""
    _, maker, terms = term
    look.need(maker in look.makers, at, "maker")
    data, fields = look.makers[maker]
    look.need(len(terms) == len(fields), at, "maker")
    rows = [look_at(look, inner, scope) for inner in terms]
    look.need([kind for kind, _ in rows] == list(fields), at, "kind")
    names = [name for _, used in rows for name in used]
    look.need(are_unlike(names), at, "twice")
    return (data, tuple(names))


def look_at_choice(look, at, term, scope):
    """The kind of a choice's cases."""
    _, chosen, cases = term
    data, used = look_at(look, chosen, scope)
    look.need(isinstance(data, str), at, "kind")
    makers = look.datas.get(data, ())
    wanted = [(maker, len(fields)) for maker, fields in makers]
    look.need([(maker, len(names)) for maker, names, _ in cases] == wanted, at, "cases")
    rows = []
    for (_, names, inner), (_, fields) in zip(cases, makers):
        rows.append(look_at(look, inner, widened(scope, names, fields)))
    look.need(all([kind == rows[0][0] for kind, _ in rows]), at, "kind")
    held = [without(inside, names) for (_, names, _), (_, inside) in zip(cases, rows)]
    look.need(all([are_apart(used, others) for others in held]), at, "twice")
    look.need(all([sorted(others) == sorted(held[0]) for others in held]), at, "unlike")
    given = [(name, inside) for (_, names, _), (_, inside) in zip(cases, rows) for name in names]
    look.need(all([name in inside for name, inside in given]), at, "unused")
    return (rows[0][0], used + held[0])


LOOKS = {
    "@": look_at_def,
    "^": look_at_function,
    "!": look_at_call,
    "&": look_at_pair,
    "/": look_at_parting,
    "#": look_at_maker,
    "?": look_at_choice,
    "+": look_at_copy,
    "-": look_at_drop,
}


def widened(scope, names, kinds):
    """A scope with these names of these kinds in it, each in the place of one of its name."""
    told = dict(scope)
    for name, kind in zip(names, kinds):
        told[name] = kind
    return told


def without(used, names):
    """Names that are used, these names aside."""
    return tuple([name for name in used if name not in names])


def are_apart(used, others):
    """Whether no name stands in both."""
    return len(without(used, others)) == len(used)


def is_made_by(kind, sign):
    """Whether a kind is one of functions, of pairs, by its sign."""
    return not isinstance(kind, str) and kind[0] == sign
