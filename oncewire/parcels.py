"""Runs as a house has them, sent as parcels and taken up."""

from oncewire.books import Book
from oncewire.defs import shown_def_of
from oncewire.errors import BadParcel, NoDef, NoKind, NoLine, NotShown
from oncewire.lines import line_of, net_of
from oncewire.runs import Run
from oncewire.shapes import is_program, is_row, is_whole
from oncewire.wires import unfit


class Going:
    """A def's run, and the counts of what was done ahead of it elsewhere."""

    def __init__(self, f, run, ahead):
        self.f = f
        self.run = run
        self.ahead = ahead

    def counts(self):
        """How many moves of each name were done, here and elsewhere."""
        told = self.run.counts()
        for name, many in self.ahead.items():
            told[name] = told.get(name, 0) + many
        return told

    def copy(self):
        """A run that goes on by itself from here."""
        return Going(self.f, self.run.copy(), self.ahead)


def begun(program, f, tight):
    """A new run of a def."""
    return Going(f, Run(Book(program, tight=tight), f), {})


def parcel_of(going):
    """A run's parcel."""
    book = going.run.book
    counts = sorted([(name, many) for name, many in going.counts().items()])
    return (book.program, going.f, book.tight, line_of(book, going.run.net), tuple(counts))


def taken_up(parcel):
    """The run that goes on with a parcel; the parcel may be anything."""
    if not is_row(parcel, 5, 5):
        raise BadParcel("no row of five things")
    program, f, tight, line, counts = parcel
    if not is_program(program) or not isinstance(tight, bool):
        raise BadParcel("no program, or no truth")
    try:
        book = Book(program, tight=tight)
        kind, _ = shown_def_of(program, f)
        net = net_of(book, line)
    except (NoKind, NoDef, NotShown, NoLine):
        raise BadParcel("a program with a fault, no def of a shown kind, or no line of a net") from None
    outs = [symbol for symbol in [net.symbol_of(agent) for agent in net.numbers()] if symbol[0] == "out"]
    if outs != [("out", kind)] or len(unfit(book, net)) > 0:
        raise BadParcel("a net that is none of the def's runs")
    if not are_counts(program, counts):
        raise BadParcel("no counts of the program's steps")
    return Going(f, Run(book, f, net=net), {name: many for name, many in counts})


def are_counts(program, thing):
    """Whether a thing is a rising tuple of names of a program's steps, each once, each with a number from 1 on."""
    if not isinstance(thing, tuple) or not all([is_row(row, 2, 2) for row in thing]):
        return False
    names = names_of_steps(program)
    for name, many in thing:
        # Only a row of texts may be looked for: no other thing needs to fit a dict.
        if not isinstance(name, tuple) or not all([isinstance(word, str) for word in name]):
            return False
        if name not in names or not is_whole(many) or many < 1:
            return False
    ahead = [name for name, _ in thing]
    return all([one < other for one, other in zip(ahead, ahead[1:])])


def names_of_steps(program):
    """The names of all steps that a program may have."""
    datas, defs = program
    told = {("call",): True, ("part",): True}
    for f, _, _ in defs:
        told[("open", f)] = True
    for maker in [maker for _, makers in datas for maker, _ in makers]:
        for sign in ("choice", "copy", "drop"):
            told[(sign, maker)] = True
    return told
