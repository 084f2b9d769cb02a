"""A program's symbols, and what takes the place of agents that open or meet."""

from oncewire.kinds import is_of_datas, let_by
from oncewire.shapes import is_kind, is_row, is_whole
from oncewire.sheets import LOWERS, Sheet, piece_of_term

STEPS = {"def": "open", "choose": "choice", "copy": "copy", "drop": "drop"}


class Rules:
    """The plain rules of a program."""

    def __init__(self, program):
        rows = let_by(program)
        self.datas = {data: makers for data, makers in program[0]}
        self.makers = {maker: (data, fields) for data, makers in program[0] for maker, fields in makers}
        self.sheets = {}
        self.choices = []
        self.named = {"make": self.makers, "copy": self.datas, "drop": self.datas, "def": self.sheets}
        for f, _, term in program[1]:
            sheet = Sheet(term, rows[f], len(self.choices))
            self.sheets[f] = sheet
            self.choices.extend([(sheet, at) for at in sheet.choices])

    def has(self, thing):
        """Whether a thing is a symbol of the program."""
        if not is_row(thing, 2, 3) or not isinstance(thing[0], str):
            return False
        if len(thing) == 3:
            kind = (">", thing[1], thing[2])
            return thing[0] in ("fun", "call", "pair", "part") and is_kind(kind) and is_of_datas(kind, self.datas)
        if thing[0] == "out":
            return is_kind(thing[1]) and is_of_datas(thing[1], self.datas)
        if thing[0] == "choose":
            return is_whole(thing[1]) and 0 <= thing[1] < len(self.choices)
        return thing[0] in self.named and isinstance(thing[1], str) and thing[1] in self.named[thing[0]]

    def lower(self, symbol):
        """How many lower ports an agent of a symbol has."""
        if symbol[0] == "make":
            return len(self.makers[symbol[1]][1])
        if symbol[0] == "choose":
            sheet, at = self.choices[symbol[1]]
            return sheet.lower(at)
        return LOWERS[symbol[0]]

    def piece(self, symbol, other=None):
        """The piece of a def, of a giver and a taker that meet, or None where there is none; of anything."""
        if not self.has(symbol):
            return None
        if other is None:
            return piece_of_term(self.sheets[symbol[1]], 0, {}, (-1, 0)) if symbol[0] == "def" else None
        if not self.has(other) or (symbol[0], other[0]) not in MEETINGS:
            return None
        action = MEETINGS[(symbol[0], other[0])]
        return action(self, symbol, other)


def piece_through(_rules, symbol, other):
    """The lower ports of the two tied through."""
    return ((), (((-1, 1), (-2, 1)), ((-1, 2), (-2, 2)))) if symbol[1:] == other[1:] else None


def piece_chosen(rules, symbol, other):
    """The piece of the case's term."""
    sheet, at = rules.choices[other[1]]
    makers = [maker for maker, _ in rules.datas[sheet.chosen_kind(at)]]
    if symbol[1] not in makers:
        return None
    number = makers.index(symbol[1])
    _, names, _ = sheet.terms[at][2][number]
    scope = {name: (-2, place + 2) for place, name in enumerate(sheet.held(at))}
    for place, name in enumerate(names):
        scope[name] = (-1, place + 1)
    return piece_of_term(sheet, sheet.within[at][1 + number], scope, (-2, 1))


def piece_copied(rules, symbol, other):
    """Two of the maker, and copies of its parts."""
    data, fields = rules.makers[symbol[1]]
    if data != other[1]:
        return None
    agents = [(symbol, len(fields)), (symbol, len(fields))] + [(("copy", field), 2) for field in fields]
    ties = [((0, 0), (-2, 1)), ((1, 0), (-2, 2))]
    for place in range(1, len(fields) + 1):
        ties.extend([((1 + place, 0), (-1, place)), ((1 + place, 1), (0, place)), ((1 + place, 2), (1, place))])
    return (tuple(agents), tuple(ties))


def piece_dropped(rules, symbol, other):
    """Drops of the maker's parts."""
    data, fields = rules.makers[symbol[1]]
    if data != other[1]:
        return None
    ties = [((at, 0), (-1, at + 1)) for at in range(len(fields))]
    return (tuple([(("drop", field), 0) for field in fields]), tuple(ties))


MEETINGS = {
    ("fun", "call"): piece_through,
    ("pair", "part"): piece_through,
    ("make", "choose"): piece_chosen,
    ("make", "copy"): piece_copied,
    ("make", "drop"): piece_dropped,
}


def step_of(symbol, other=None):
    """The name of the step that a def's opening or a meeting is, the giver ahead."""
    if symbol[0] in ("def", "make"):
        return (STEPS[symbol[0] if other is None else other[0]], symbol[1])
    return ("call",) if symbol[0] == "fun" else ("part",)
