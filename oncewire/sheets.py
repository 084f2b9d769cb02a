"""Terms of defs as webs: each part's agent, and the pieces that terms are laid as."""

from oncewire.kinds import without
from oncewire.shapes import below, parts

# How many lower ports an agent has by the text that its symbol begins with; a maker's and a
# choice's hang on the program.
LOWERS = {"out": 0, "fun": 2, "call": 2, "pair": 2, "part": 2, "copy": 2, "drop": 0, "def": 0}


class Sheet:
    """The parts of a def's term by their numbers; first is the number of its first choice."""

    def __init__(self, term, rows, first):
        self.terms = parts(term)
        self.kinds = [kind for kind, _ in rows]
        self.used = [names for _, names in rows]
        self.within = numbers_within(self.terms)
        self.choices = [at for at, one in enumerate(self.terms) if one[0] == "?"]
        numbers = {at: first + number for number, at in enumerate(self.choices)}
        self.signs = [self.sign_of(at, numbers.get(at)) for at in range(len(self.terms))]

    def sign_of(self, at, number):
        """The symbol of a part's agent, None of a name; number is the choice's."""
        term = self.terms[at]
        if isinstance(term, str):
            return None
        if term[0] in ("@", "#"):
            return ("def" if term[0] == "@" else "make", term[1])
        if term[0] == "?":
            return ("choose", number)
        if term[0] in ("^", "&"):
            return ("fun" if term[0] == "^" else "pair", self.kinds[at][1], self.kinds[at][2])
        kind = self.kinds[self.within[at][0]]
        if term[0] in ("!", "/"):
            return ("call" if term[0] == "!" else "part", kind[1], kind[2])
        return ("copy" if term[0] == "+" else "drop", kind)

    def chosen_kind(self, at):
        """The data kind that a choice is by."""
        return self.kinds[self.within[at][0]]

    def held(self, at):
        """The names that a choice holds."""
        _, names, _ = self.terms[at][2][0]
        return without(self.used[self.within[at][1]], names)

    def kind_of_used(self, at, name):
        """The kind of a name that a part uses."""
        while not isinstance(self.terms[at], str):
            # The name may stand in other terms, too, but there for what they name themselves.
            users = [inner for inner, (names, _) in zip(self.within[at], below(self.terms[at]))
                     if name in self.used[inner] and name not in names]
            at = users[0]
        return self.kinds[at]

    def lower(self, at):
        """How many lower ports a part's agent has."""
        term = self.terms[at]
        if term[0] == "#":
            return len(term[2])
        return 1 + len(self.held(at)) if term[0] == "?" else LOWERS[self.signs[at][0]]


def numbers_within(terms):
    """For each part of a term the numbers of the terms right in it."""
    told = [[] for _ in terms]
    waiting = []
    for at in reversed(range(len(terms))):
        many = len(below(terms[at]))
        for _ in range(many):
            told[at].append(waiting.pop())
        waiting.append(at)
    return told


class Draft:
    """A piece on the way."""

    def __init__(self, sheet):
        self.sheet = sheet
        self.agents = []
        self.ties = []

    def put(self, at):
        """Puts the agent of a part in; its number in the piece."""
        self.agents.append((self.sheet.signs[at], self.sheet.lower(at)))
        return len(self.agents) - 1

    def tie(self, one, other):
        """Ties two ports."""
        self.ties.append((one, other))


def piece_of_term(sheet, at, scope, end):
    """The piece of the term that is this part: names are the wires that scope tells, its worth is at the end."""
    draft = Draft(sheet)
    draft.tie(end, drawn(draft, at, scope))
    return (tuple(draft.agents), tuple(draft.ties))


def drawn(draft, at, scope):
    """Puts a term's agents in; the port that gives its worth."""
    term = draft.sheet.terms[at]
    if isinstance(term, str):
        return scope[term]
    agent = draft.put(at)
    within = draft.sheet.within[at]
    if term[0] == "@":
        return (agent, 0)
    if term[0] == "^":
        inside = {name: scope[name] for name in scope}
        inside[term[1]] = (agent, 1)
        draft.tie((agent, 2), drawn(draft, within[0], inside))
        return (agent, 0)
    if term[0] in ("&", "#"):
        for place, inner in enumerate(within):
            draft.tie((agent, place + 1), drawn(draft, inner, scope))
        return (agent, 0)
    draft.tie((agent, 0), drawn(draft, within[0], scope))
    return drawn_taker(draft, agent, at, scope)


def drawn_taker(draft, agent, at, scope):
    """Goes on behind the term that an agent takes at its head; the port that gives the worth."""
    term = draft.sheet.terms[at]
    within = draft.sheet.within[at]
    if term[0] == "!":
        draft.tie((agent, 1), drawn(draft, within[1], scope))
        return (agent, 2)
    if term[0] == "?":
        for place, name in enumerate(draft.sheet.held(at)):
            draft.tie((agent, place + 2), scope[name])
        return (agent, 1)
    inside = {name: scope[name] for name in scope}
    if term[0] in ("/", "+"):
        inside[term[2]] = (agent, 1)
        inside[term[3]] = (agent, 2)
    return drawn(draft, within[1], inside)
