"""How many beats a run has."""

from oncewire.errors import TooLong
from oncewire.meaning import MOST
from oncewire.runs import Run


def beats(book, f, *, hands=None, most=MOST):
    """How many beats a def's run has until no move is left, and how many steps."""
    run = Run(book, f)
    told = 0
    while len(run.ways) > 0:
        many = len(run.ways) if hands is None else min(hands, len(run.ways))
        # A beat with too many moves needn't be done to be refused.
        if run.steps() + many > most:
            raise TooLong("more steps than asked for")
        run.beat(hands=hands)
        told += 1
    return (told, run.steps())
