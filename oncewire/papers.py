"""Papers of runs: what was done, told as moves; papers paired, logs joined."""

from oncewire.back import shown
from oncewire.errors import NoMove, NoRun
from oncewire.runs import Run
from oncewire.shapes import is_whole


class Replay:
    """A run done once more: the agents that each move made, and the number of the move by which each agent went."""

    def __init__(self, book, f):
        self.run = Run(book, f)
        self.made = []
        self.went = {}

    def do(self, move):
        """Does a move."""
        first = self.run.net.following
        self.run.do(move)
        for agent in move:
            self.went[agent] = len(self.made)
        self.made.append(list(range(first, self.run.net.following)))


def replayed(book, f, thing):
    """A log done once more, or None where a thing is no log of a def's run."""
    if not isinstance(thing, list):
        return None
    replay = Replay(book, f)
    for move in thing:
        try:
            replay.do(move)
        except NoMove:
            return None
    return replay


def replayed_to_end(book, f, thing):
    """A paper done once more, or None where a thing is no paper of a def's run."""
    replay = replayed(book, f, thing)
    return replay if replay is not None and len(replay.run.ways) == 0 else None


def is_run(book, f, thing, worth):
    """Whether a thing is a paper of a def's run with this worth."""
    replay = replayed_to_end(book, f, thing)
    return replay is not None and shown(replay.run.net) == worth


def matched(mine, theirs):
    """For each move of mine the number of the same one of theirs; what theirs lack is done behind them."""
    pairs = {0: 0, 1: 1}
    told = []
    rows = list(zip(mine.run.done(), mine.made))
    for move, made in rows:
        there = [pairs[agent] for agent in move]
        if there[0] not in theirs.went:
            theirs.do(tuple(sorted(there)))
        number = theirs.went[there[0]]
        told.append(number)
        for agent, image in zip(made, theirs.made[number]):
            pairs[agent] = image
    return told


def paired(book, f, one, other):
    """For each move of a paper the number of the same one of the other paper."""
    mine = replayed_to_end(book, f, one)
    theirs = replayed_to_end(book, f, other)
    if mine is None or theirs is None:
        raise NoRun("no paper of a run")
    return matched(mine, theirs)


def is_paired(book, f, one, other, thing):
    """Whether a thing is what two papers are paired by."""
    if not isinstance(thing, list) or not all([is_whole(number) for number in thing]):
        return False
    try:
        return paired(book, f, one, other) == thing
    except NoRun:
        return False


def joined(book, f, one, other):
    """The moves to be done behind each of two logs, so that just those that either has are done in both."""
    return (lacking(book, f, one, other), lacking(book, f, other, one))


def lacking(book, f, log, other):
    """The moves of the other log that a log lacks, as they are done behind it."""
    mine = replayed(book, f, log)
    theirs = replayed(book, f, other)
    if mine is None or theirs is None:
        raise NoRun("no log of a run")
    matched(theirs, mine)
    return mine.run.done()[len(log):]
