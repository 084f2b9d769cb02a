"""Pieces in which what can be done ahead is done."""

from oncewire.laying import lay, planned
from oncewire.nets import Net, moves
from oncewire.rules import step_of


def tightened(rules, piece):
    """A piece with what can be done ahead done, and the counts of that."""
    net = net_of_piece(piece)
    counts = {}
    plans = plans_ahead(rules, net)
    while plans:
        # Moves have no agent in common: so each goes on to be one while the others are done.
        for agents, plan in plans:
            name = step_of(*plan.symbols)
            counts[name] = counts.get(name, 0) + 1
            lay(net, agents, plan.piece, 0, {})
        plans = plans_ahead(rules, net)
    return (piece_of_net(net), counts)


def net_of_piece(piece):
    """A net of a piece, with an agent "out" in the place of each end outside of it."""
    symbols, ties = piece
    net = Net()
    for symbol, lower in symbols:
        net.put(symbol, lower)
    for tie in ties:
        ends = [(net.put(("out", at, place)), 0) if at < 0 else (at, place) for at, place in tie]
        net.tie(*ends)
    return net


def plans_ahead(rules, net):
    """The plans of the moves of a net that can be done ahead, each behind its agents, the giver ahead."""
    told = []
    for move in moves(net):
        plan = planned(rules, tuple([net.symbol_of(agent) for agent in move]))
        # Neither a def is opened ahead nor anything copied.
        if len(move) == 2 and plan is not None and plan.symbols[1][0] != "copy":
            told.append((move[::-1] if plan.turned else move, plan))
    return told


def piece_of_net(net):
    """The piece that such a net tells."""
    symbols = []
    names = {}
    for agent in net.numbers():
        symbol = net.symbol_of(agent)
        if symbol[0] == "out":
            names[(agent, 0)] = (symbol[1], symbol[2])
        else:
            for place in range(net.lower_of(agent) + 1):
                names[(agent, place)] = (len(symbols), place)
            symbols.append((symbol, net.lower_of(agent)))
    ends = [(port, net.end_of(port)) for port in names]
    return (tuple(symbols), tuple([(names[port], names[end]) for port, end in ends if port < end]))
