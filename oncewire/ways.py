"""Rising lists of moves: one found, put in, picked."""

from oncewire.errors import NoMove
from oncewire.shapes import is_row, is_whole


def place_of(ways, move):
    """The number of the first move that isn't less than this one."""
    low = 0
    high = len(ways)
    while low < high:
        middle = (low + high) // 2
        if ways[middle] < move:
            low = middle + 1
        else:
            high = middle
    return low


def number_of(ways, thing):
    """The number of a move; refuses anything that is none of these."""
    if is_row(thing, 1, 2) and all([is_whole(agent) for agent in thing]):
        at = place_of(ways, thing)
        if at < len(ways) and ways[at] == thing:
            return at
    raise NoMove("no move of the net")


def put_way(ways, move):
    """Puts a move into a rising list of others."""
    # What is new mostly has the greatest numbers.
    if len(ways) == 0 or ways[-1] < move:
        ways.append(move)
    else:
        ways.insert(place_of(ways, move), move)


def gone_on(run, picks, most):
    """Lets a run do so many moves at most, each picked by its number; whether no move is left."""
    many = 0
    while many < most and len(run.ways) > 0:
        run.do_at(picks[many] % len(run.ways) if many < len(picks) else 0)
        many += 1
    return len(run.ways) == 0
