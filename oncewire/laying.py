"""A piece laid in a net, in the place of the agents of a move."""


def ordered(book, net, move):
    """The agents of a move, the giver ahead, and the piece that takes their place; the piece is None without a rule."""
    if len(move) == 1:
        return (move, book.piece(net.symbol_of(move[0])))
    one, other = move
    piece = book.piece(net.symbol_of(one), net.symbol_of(other))
    if piece is None:
        return ((other, one), book.piece(net.symbol_of(other), net.symbol_of(one)))
    return (move, piece)


def lay(net, agents, piece):
    """Puts a piece into this very net where these agents were, the giver ahead.

    Told are the new agents' numbers and the wires that came: each with its two ends and the ports
    (-1, j), (-2, j) of those that went whose old wires are in it.
    """
    outer = outer_ends(net, agents)
    for agent in agents:
        net.take_away(agent)
    symbols, ties = piece
    numbers = [net.put(symbol, lower) for symbol, lower in symbols]
    wires = spliced(inner_ends(ties, numbers), outer)
    for one, other, _ in wires:
        net.tie(one, other)
    return (numbers, wires)


def outer_ends(net, agents):
    """What the ports that a piece names by (-1, j), (-2, j) are tied to, each other's by these names, too."""
    names = {agent: -1 - at for at, agent in enumerate(agents)}
    # The heads of two that meet face one another; of a def's agent there is nothing but its head.
    first = 0 if len(agents) == 1 else 1
    told = {}
    for agent in agents:
        for place in range(first, net.lower_of(agent) + 1):
            end = net.end_of((agent, place))
            if end is not None and end[0] in names:
                end = (names[end[0]], end[1])
            told[(names[agent], place)] = end
    return told


def inner_ends(ties, numbers):
    """What each port of a piece is tied to in it, new agents by their numbers in the net."""
    told = {}
    for one, other in ties:
        port, end = [(numbers[at], place) if at >= 0 else (at, place) for at, place in (one, other)]
        told[port] = end
        told[end] = port
    return told


def spliced(inner, outer):
    """The wires that come where old ends and those of a piece are put together.

    A wire without an end at either side isn't met here, and one with one end alone isn't told.
    """
    back = {end: port for port, end in outer.items() if end is not None and end[0] >= 0}
    starts = [port for port in inner if port[0] >= 0] + list(back)
    done = set()
    told = []
    for start in starts:
        if start not in done:
            end, through = followed(start, inner, outer, back)
            if end is not None:
                done.add(end)
                told.append((start, end, through))
    return told


def followed(start, inner, outer, back):
    """The end of the wire that starts here, or None, and the ports of those that went on the way."""
    through = []
    at = start
    if start in back:
        at = back[start]
        through.append(at)
    at = inner[at]
    while at is not None and at[0] < 0:
        through.append(at)
        at = outer[at]
        if at is not None and at[0] < 0:
            at = inner[at]
    return (at, through)
