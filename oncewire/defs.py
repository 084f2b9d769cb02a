"""A program's defs by their names."""

from oncewire.errors import NoDef, NotShown
from oncewire.shapes import is_shown


def def_of(program, f):
    """A def's kind and term; f may be anything."""
    if isinstance(f, str):
        for name, kind, term in program[1]:
            if name == f:
                return (kind, term)
    raise NoDef("the program has no such def")


def shown_def_of(program, f):
    """The kind and the term of a def of a shown kind; f may be anything."""
    kind, term = def_of(program, f)
    if not is_shown(kind):
        raise NotShown("the def's kind is not shown")
    return (kind, term)
