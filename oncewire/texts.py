"""Kinds, terms and programs written as texts, and read from them."""

from oncewire.errors import NoText
from oncewire.shapes import FORMS, is_kind, is_program, is_term
from oncewire.signs import Reader, signs_of_kind, signs_of_program, signs_of_term

UNSHOWN = "."


def kind_text(kind):
    """A kind as it is written."""
    if isinstance(kind, str):
        return kind
    return bracketed([kind[0], kind_text(kind[1]), kind_text(kind[2])])


def term_text(term):
    """A term as it is written, or a worth, however many parts it has."""
    return text_with(term, "")


def worth_text(worth):
    """A worth as far as it is shown, with a point for what isn't."""
    return text_with(worth, UNSHOWN)


def text_with(term, unshown):
    """A term as it is written, with this text in the place of None."""
    told = []
    rows = [term]
    while rows:
        one = rows.pop()
        if one is None:
            told.append(unshown)
        elif isinstance(one, str):
            told.append(one)
        else:
            rows.extend(spelled(one)[::-1])
    return "".join(told)


def spelled(term):
    """What a term that is no name is written with: texts, and the terms right in it as they are."""
    if term[0] == "@":
        return ["@", term[1]]
    told = ["(", term[0]]
    for slot, item in zip(FORMS[term[0]], term[1:]):
        if slot == "kind":
            told.extend([" ", kind_text(item)])
        elif slot == "terms":
            for inner in item:
                told.extend([" ", inner])
        elif slot == "cases":
            for maker, names, inner in item:
                told.extend([" (", " ".join([maker, *names]), " : ", inner, ")"])
        else:
            told.extend([" ", item])
    told.append(")")
    return told


def program_text(program):
    """A program as it is written."""
    datas, defs = program
    rows = [data_text(name, makers) for name, makers in datas]
    rows.extend([bracketed(["@", name, kind_text(kind), term_text(term)]) for name, kind, term in defs])
    return "\n".join(rows)


def data_text(name, makers):
    """A data kind with its makers as it is written."""
    return bracketed(["=", name] + [bracketed([maker, *fields]) for maker, fields in makers])


def bracketed(words):
    """Words in brackets, single blanks between them."""
    return "(" + " ".join(words) + ")"


def read_kind(text):
    """The kind that a text writes."""
    return read_whole(text, signs_of_kind, is_kind)


def read_term(text):
    """The term that a text writes."""
    return read_whole(text, signs_of_term, is_term)


def read_program(text):
    """The program that a text writes."""
    return read_whole(text, signs_of_program, is_program)


def read_whole(text, read, holds):
    """What a whole text writes by its signs, where it is such a thing by its numbers and names, too."""
    reader = Reader(text)
    thing = read(reader)
    reader.finish()
    if not holds(thing):
        raise NoText(len(text))
    return thing
