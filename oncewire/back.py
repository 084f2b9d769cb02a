"""Worths read from nets, as far as they are shown."""

from oncewire.nets import moves

SHOWERS = ("make", "pair")


def shown(net):
    """The worth at the end of the one agent that is out, None in the place of what isn't shown."""
    worths = []
    for agent in agents_shown(net)[::-1]:
        if agent is None:
            worths.append(None)
        else:
            inner = tuple([worths.pop() for _ in range(net.lower_of(agent))])
            symbol = net.symbol_of(agent)
            worths.append(("#", symbol[1], inner) if symbol[0] == "make" else ("&", *inner))
    return worths.pop() if worths else None


def agents_shown(net):
    """The agents that show a worth, each ahead of those of its parts in their order, None for what isn't shown."""
    told = []
    waiting = [net.end_of((agent, 0)) for agent in net.numbers() if net.symbol_of(agent)[0] == "out"]
    while waiting:
        agent = shower_at(net, waiting.pop())
        told.append(agent)
        if agent is not None:
            ends = [net.end_of((agent, place)) for place in range(1, net.lower_of(agent) + 1)]
            waiting.extend(ends[::-1])
    return told


def shower_at(net, end):
    """The agent whose head is at an end, where it is a maker or a pair, else None."""
    if end is None or end[1] != 0 or net.symbol_of(end[0])[0] not in SHOWERS:
        return None
    return end[0]


def is_ended(net):
    """Whether a net has no move, shows its whole worth, and has no other agents."""
    agents = agents_shown(net)
    whole = len(agents) > 0 and None not in agents
    return whole and len(agents) + 1 == len(net) and len(moves(net)) == 0
