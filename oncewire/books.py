"""Books: the symbols of a program, and the pieces that take the place of agents that open or meet."""

from oncewire.ahead import tightened
from oncewire.errors import NoSymbol
from oncewire.rules import Rules
from oncewire.shapes import is_shown


class Book:
    """A program with its pieces, tight or not."""

    def __init__(self, program, *, tight=False):
        self.program = program
        self.tight = tight
        self.rules = Rules(program)
        self.pieces = {}
        self.savings = {}
        for key in keys_of_pieces(self.rules):
            self.pieces[key] = self.rules.piece(*key)
            if tight:
                self.pieces[key], self.savings[key] = tightened(self.rules, self.pieces[key])

    def symbols(self):
        """The book's symbols."""
        datas, defs = self.program
        rows = [("out", kind) for _, kind, _ in defs if is_shown(kind)]
        rows.extend([("def", f) for f, _, _ in defs])
        for data, makers in datas:
            rows.extend([("copy", data), ("drop", data)] + [("make", maker) for maker, _ in makers])
        for f, _, _ in defs:
            rows.extend([symbol for symbol in self.rules.sheets[f].signs if symbol is not None])
        # A dict keeps the order and has each once.
        return tuple({symbol: True for symbol in rows})

    def lower(self, symbol):
        """How many lower ports an agent of a symbol of the program has."""
        if not self.rules.has(symbol):
            raise NoSymbol("no symbol of the program")
        return self.rules.lower(symbol)

    def held(self, k):
        """The names that a choice holds."""
        sheet, at = self.rules.choices[k]
        return sheet.held(at)

    def piece(self, symbol, other=None):
        """What takes the place of a def's agent or of two that meet, None where there is no rule."""
        key = self.key_of(symbol, other)
        return self.rules.piece(symbol, other) if key is None else self.pieces[key]

    def saved(self, symbol, other=None):
        """The counts of what was done ahead in a piece."""
        key = self.key_of(symbol, other)
        counts = {} if key is None or not self.tight else self.savings[key]
        return {name: counts[name] for name in counts}

    def key_of(self, symbol, other):
        """The key of a piece that is kept, None where none is kept of these; they may be anything."""
        key = (symbol,) if other is None else (symbol, other)
        # Only a symbol of the program may be looked for: no other thing needs to fit a dict.
        if not all([self.rules.has(one) for one in key]):
            return None
        return key if key in self.pieces else None


def keys_of_pieces(rules):
    """The defs, and the makers with the choices by their data kinds."""
    told = [(("def", f),) for f in rules.sheets]
    for k, (sheet, at) in enumerate(rules.choices):
        told.extend([(("make", maker), ("choose", k)) for maker, _ in rules.datas[sheet.chosen_kind(at)]])
    return told
