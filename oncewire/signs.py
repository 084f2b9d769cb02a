"""Reads things out of a text by its brackets, signs and names; numbers and likeness aren't looked at."""

from oncewire.errors import NoText
from oncewire.shapes import FORMS, LETTERS, MOST_LETTERS

BLANKS = " \n"
KIND_SIGNS = ">*"
TERM_SIGNS = "^!&/#?+-"


class Reader:
    """A text and how far it is read; the first sign that can't be is refused."""

    def __init__(self, text):
        self.text = text
        self.at = 0

    def peek(self):
        """The next sign that is no blank, a text of none at the end."""
        while self.at < len(self.text) and self.text[self.at] in BLANKS:
            self.at += 1
        return self.text[self.at:self.at + 1]

    def take(self, signs):
        """The next sign, which is one of these."""
        sign = self.peek()
        if sign == "" or sign not in signs:
            raise NoText(self.at)
        self.at += 1
        return sign

    def take_name(self):
        """The next name."""
        self.peek()
        start = self.at
        while self.at < len(self.text) and self.text[self.at] in LETTERS:
            if self.at - start == MOST_LETTERS:
                raise NoText(self.at)
            self.at += 1
        if self.at == start:
            raise NoText(start)
        return self.text[start:self.at]

    def finish(self):
        """Refuses a text in which a sign is left."""
        if self.peek() != "":
            raise NoText(self.at)


def read_name(reader):
    """A name."""
    return reader.take_name()


def read_until(reader, read, sign):
    """A tuple of what read tells, again and again until this sign stands there."""
    told = []
    while reader.peek() != sign:
        told.append(read(reader))
    return tuple(told)


def signs_of_kind(reader):
    """A kind."""
    if reader.peek() != "(":
        return reader.take_name()
    reader.take("(")
    sign = reader.take(KIND_SIGNS)
    one = signs_of_kind(reader)
    other = signs_of_kind(reader)
    reader.take(")")
    return (sign, one, other)


def signs_of_term(reader):
    """A term."""
    if reader.peek() not in ("(", "@"):
        return reader.take_name()
    if reader.take("(@") == "@":
        return ("@", reader.take_name())
    told = [reader.take(TERM_SIGNS)]
    for slot in FORMS[told[0]]:
        action = SLOT_READERS[slot]
        told.append(action(reader))
    reader.take(")")
    return tuple(told)


def signs_of_terms(reader):
    """The parts of a maker, perhaps none."""
    return read_until(reader, signs_of_term, ")")


def signs_of_cases(reader):
    """The cases of a choice, one or more."""
    first = signs_of_case(reader)
    return (first,) + read_until(reader, signs_of_case, ")")


def signs_of_case(reader):
    """A case: its maker, the names of its parts, its term."""
    reader.take("(")
    maker = reader.take_name()
    names = read_until(reader, read_name, ":")
    reader.take(":")
    term = signs_of_term(reader)
    reader.take(")")
    return (maker, names, term)


SLOT_READERS = {
    "name": read_name,
    "kind": signs_of_kind,
    "term": signs_of_term,
    "terms": signs_of_terms,
    "cases": signs_of_cases,
}


def signs_of_program(reader):
    """A program: its data kinds, one or more, then its defs."""
    return signs_of_rows(reader, "=")


def signs_of_tell(reader):
    """Data kinds, perhaps none, then defs, perhaps none, but one thing or more; there is nothing behind them."""
    return signs_of_rows(reader, "=@")


def signs_of_rows(reader, signs):
    """Data kinds, then defs, up to the end; the first of them begins with one of these signs."""
    datas = []
    defs = []
    while len(datas) + len(defs) == 0 or reader.peek() != "":
        reader.take("(")
        if reader.take(signs) == "=":
            datas.append(signs_of_data(reader))
            signs = "=@"
        else:
            defs.append(signs_of_def(reader))
            signs = "@"
        reader.take(")")
    return (tuple(datas), tuple(defs))


def signs_of_data(reader):
    """A data kind's name and its makers, one or more, behind the sign."""
    name = reader.take_name()
    first = signs_of_maker(reader)
    return (name, (first,) + read_until(reader, signs_of_maker, ")"))


def signs_of_maker(reader):
    """A maker and its fields."""
    reader.take("(")
    name = reader.take_name()
    fields = read_until(reader, read_name, ")")
    reader.take(")")
    return (name, fields)


def signs_of_def(reader):
    """A def's name, kind and term, behind the sign."""
    name = reader.take_name()
    kind = signs_of_kind(reader)
    return (name, kind, signs_of_term(reader))
