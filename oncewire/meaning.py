"""What defs mean: worths reckoned from terms, their steps counted; and roads of defs without an end."""

from oncewire.defs import def_of, shown_def_of
from oncewire.errors import TooLong
from oncewire.kinds import widened
from oncewire.shapes import are_unlike, below

MOST = 2000


class Reckoning:
    """A meaning on the way: what is still to be done, the worths that wait for it, the steps.

    The rows of what is to be done stand in the place of calls within one another, as a def may
    reckon others within it as deep as it has steps.
    """

    def __init__(self, program, most):
        self.terms = {f: term for f, _, term in program[1]}
        self.most = most
        self.many = 0
        self.tally = {}
        self.tasks = []
        self.worths = []

    def step(self, name):
        """Counts a step of this name."""
        self.many += 1
        if self.many > self.most:
            raise TooLong("more steps than asked for")
        self.tally[name] = self.tally.get(name, 0) + 1

    def steps_over(self, sign, worth):
        """Counts a step for each maker in a data kind's worth."""
        rows = [worth]
        while rows:
            _, maker, inner = rows.pop()
            self.step((sign, maker))
            rows.extend(inner)

    def begin(self, term, scope):
        """Puts down that a term's worth is to be told, names standing for what the scope says."""
        self.tasks.append((begin_term, term, scope))


def meaning(program, f, *, most=MOST):
    """The worth of a def of a shown kind, and how many steps of each name it takes."""
    shown_def_of(program, f)
    reckoning = Reckoning(program, most)
    reckoning.begin(("@", f), {})
    while reckoning.tasks:
        action, term, scope = reckoning.tasks.pop()
        action(reckoning, term, scope)
    return (reckoning.worths.pop(), {name: reckoning.tally[name] for name in reckoning.tally})


def begin_term(reckoning, term, scope):
    """Begins with a term: its worth, or the terms that are to be told ahead of it."""
    if isinstance(term, str):
        reckoning.worths.append(scope[term])
    elif term[0] == "@":
        reckoning.step(("open", term[1]))
        reckoning.begin(reckoning.terms[term[1]], {})
    elif term[0] == "^":
        reckoning.worths.append((term, scope))
    else:
        reckoning.tasks.append((ENDS[term[0]], term, scope))
        for inner in told_ahead(term)[::-1]:
            reckoning.begin(inner, scope)


def told_ahead(term):
    """The terms right in a term whose worths are told ahead of its own."""
    rows = [inner for _, inner in below(term)]
    return rows[:1] if term[0] in ("/", "?", "+", "-") else rows


def end_call(reckoning, _term, _scope):
    """Goes on with the called function's term."""
    given = reckoning.worths.pop()
    function, scope = reckoning.worths.pop()
    reckoning.step(("call",))
    reckoning.begin(function[3], widened(scope, (function[1],), (given,)))


def end_pair(reckoning, _term, _scope):
    """Puts two worths together."""
    other = reckoning.worths.pop()
    one = reckoning.worths.pop()
    reckoning.worths.append(("&", one, other))


def end_parting(reckoning, term, scope):
    """Goes on with the term in which a pair is parted."""
    _, one, other = reckoning.worths.pop()
    reckoning.step(("part",))
    reckoning.begin(term[4], widened(scope, (term[2], term[3]), (one, other)))


def end_maker(reckoning, term, _scope):
    """Puts a maker's parts together."""
    first = len(reckoning.worths) - len(term[2])
    inner = tuple(reckoning.worths[first:])
    del reckoning.worths[first:]
    reckoning.worths.append(("#", term[1], inner))


def end_choice(reckoning, term, scope):
    """Goes on with the term of the case that is chosen."""
    _, maker, inner = reckoning.worths.pop()
    reckoning.step(("choice", maker))
    for one, names, chosen in term[2]:
        if one == maker:
            reckoning.begin(chosen, widened(scope, names, inner))


def end_copy(reckoning, term, scope):
    """Goes on with the term in which a copy is told."""
    worth = reckoning.worths.pop()
    reckoning.steps_over("copy", worth)
    reckoning.begin(term[4], widened(scope, (term[2], term[3]), (worth, worth)))


def end_drop(reckoning, term, scope):
    """Goes on with the term behind a drop."""
    reckoning.steps_over("drop", reckoning.worths.pop())
    reckoning.begin(term[2], scope)


ENDS = {
    "!": end_call,
    "&": end_pair,
    "/": end_parting,
    "#": end_maker,
    "?": end_choice,
    "+": end_copy,
    "-": end_drop,
}


def road_of(program, f):
    """A road of a def, or None where there is none."""
    def_of(program, f)
    nexts = {name: outside_cases(term) for name, _, term in program[1]}
    return road_on(nexts, [f], {})


def road_on(nexts, road, left):
    """A road that begins with these defs, or None; left are the defs from which no road was found."""
    for name in nexts[road[-1]]:
        if name in road:
            return road + [name]
        if name not in left:
            found = road_on(nexts, road + [name], left)
            if found is not None:
                return found
    left[road[-1]] = True
    return None


def outside_cases(term):
    """The names of the defs that stand in a term outside of all cases."""
    told = []
    rows = [term]
    while rows:
        one = rows.pop()
        if one[0] == "@":
            told.append(one[1])
        elif one[0] == "?":
            rows.append(one[1])
        else:
            rows.extend([inner for _, inner in below(one)])
    return told


def is_road(program, f, thing):
    """Whether a thing is a road of a def."""
    nexts = {name: outside_cases(term) for name, _, term in program[1]}
    if not isinstance(thing, list) or len(thing) < 2:
        return False
    if not all([isinstance(name, str) and name in nexts for name in thing]):
        return False
    ahead = thing[:-1]
    if thing[0] != f or not are_unlike(ahead) or thing[-1] not in ahead:
        return False
    return all([other in nexts[one] for one, other in zip(ahead, thing[1:])])
