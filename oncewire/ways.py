"""Rising lists of moves: a move found in one, put into one."""


def place_of(ways, move):
    """The number of the first move that isn't less than this one."""
    low = 0
    high = len(ways)
    while low < high:
        middle = (low + high) // 2
        if ways[middle] < move:
            low = middle + 1
        else:
            high = middle
    return low


def put_way(ways, move):
    """Puts a move into a rising list of others."""
    # What is new mostly has the greatest numbers.
    if len(ways) == 0 or ways[-1] < move:
        ways.append(move)
    else:
        ways.insert(place_of(ways, move), move)
