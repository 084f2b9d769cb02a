"""What ports give and take; ways, rings and orders of nets."""

from oncewire.errors import NoPort, NoSymbol
from oncewire.nets import ports_of
from oncewire.orders import side_of, taken_apart
from oncewire.ports import ports_told
from oncewire.shapes import are_unlike, is_row, is_whole


def port_kind(book, symbol, place):
    """What a port of a symbol gives or takes."""
    rows = ports_of_symbol(book, symbol)
    if not is_whole(place) or not 0 <= place < len(rows):
        raise NoPort("no port of the symbol")
    return rows[place]


def ports_of_symbol(book, symbol):
    """What each port of a symbol gives or takes; the symbol may be anything."""
    if not book.rules.has(symbol):
        raise NoSymbol("no symbol of the program")
    return ports_told(book.rules, symbol)


def unfit(book, net):
    """The wires of a net that don't lead from what gives a kind to what takes it, and the untied ports."""
    rows = {agent: ports_of_symbol(book, net.symbol_of(agent)) for agent in net.numbers()}
    if not all([net.lower_of(agent) < len(rows[agent]) for agent in rows]):
        raise NoPort("no port of the symbol")
    told = []
    for port in [port for agent in rows for port in ports_of(net, agent)]:
        end = net.end_of(port)
        if end is None:
            told.append((port, None))
        elif port < end and not are_fit(rows[port[0]][port[1]], rows[end[0]][end[1]]):
            told.append((port, end))
    return told


def are_fit(one, other):
    """Whether one gives and the other takes one kind."""
    return one[0] != other[0] and one[1] == other[1]


def way(net, *, port=None):
    """The agents on the way from a port by heads, and how it ends."""
    at = net.end_of(head_of_out(net) if port is None else port)
    if at is None:
        return ([], "open")
    told = [at[0]]
    if at[1] == 0:
        return (told, head_word(net, at[0], "shown"))
    while True:
        at = net.end_of((at[0], 0))
        if at is None:
            return (told, "open")
        if at[1] == 0:
            return (told + [at[0]], head_word(net, at[0], "meets"))
        if at[0] in told:
            return (told, "round")
        told.append(at[0])


def head_of_out(net):
    """The head of the one agent that is out."""
    rows = [agent for agent in net.numbers() if net.symbol_of(agent)[0] == "out"]
    if len(rows) != 1:
        raise NoPort("not just one agent that is out")
    return (rows[0], 0)


def head_word(net, agent, word):
    """How a way ends that comes to an agent's head, with this word where it is no def's."""
    return "opens" if net.symbol_of(agent)[0] == "def" else word


def ring_in(net):
    """A ring of a net, or None."""
    _, links = taken_apart(net)
    # Where nothing is left there is an order, so no ring.
    waiting = [[(agent, None, out)] for agent in links for out in links[agent]]
    while waiting:
        path = waiting.pop()
        start, _, first = path[0]
        last, _, out = path[-1]
        agent, came = links[last][out]
        if agent == start and side_of(net, start, came) != side_of(net, start, first):
            return [(start, came, first)] + path[1:]
        waiting.extend(longer_paths(net, links, path, agent, came))
    return None


def longer_paths(net, links, path, agent, came):
    """The paths that a path of agents is the begin of, with one more agent that is come to by this place."""
    if agent in [one for one, _, _ in path]:
        return []
    side = side_of(net, agent, came)
    return [path + [(agent, came, place)] for place in links[agent] if side_of(net, agent, place) != side]


def is_ring(net, thing):
    """Whether a thing is a ring of a net."""
    if not isinstance(thing, list) or len(thing) == 0 or not all([is_passed(net, row) for row in thing]):
        return False
    if not are_unlike([agent for agent, _, _ in thing]):
        return False
    behind = thing[1:] + thing[:1]
    return all([net.end_of((one, out)) == (other, came) for (one, _, out), (other, came, _) in zip(thing, behind)])


def is_passed(net, thing):
    """Whether a thing is an agent with two of its ports, of which a ring may come in by one and go out by the other."""
    if not is_row(thing, 3, 3):
        return False
    agent, came, out = thing
    if not net.has_port((agent, came)) or not net.has_port((agent, out)):
        return False
    return side_of(net, agent, came) != side_of(net, agent, out)


def order_in(net):
    """An order of a net, or None."""
    told, links = taken_apart(net)
    return told if len(links) == 0 else None


def is_order(net, thing):
    """Whether a thing is an order of a net."""
    if not isinstance(thing, list) or len(thing) != len(net) or not all([net.has_agent(one) for one in thing]):
        return False
    if not are_unlike(thing):
        return False
    # From the end on: so those that hang together are put together, never taken apart.
    groups = {}
    for agent in thing[::-1]:
        met = groups_met(net, groups, agent)
        if met is None:
            return False
        groups[agent] = agent
        for group in met:
            groups[group] = agent
    return True


def groups_met(net, groups, agent):
    """The groups of agents that an agent's ports lead to, or None where two of its ports lead to one."""
    told = {}
    for _, place in ports_of(net, agent):
        end = net.end_of((agent, place))
        if end is None or (end[0] != agent and end[0] not in groups):
            continue
        side = side_of(net, agent, place)
        if end[0] == agent:
            if side_of(net, agent, end[1]) != side:
                return None
        elif told.setdefault(group_of(groups, end[0]), side) != side:
            return None
    return list(told)


def group_of(groups, agent):
    """The agent that stands for all that hang together with this one."""
    while groups[agent] != agent:
        # Each one is put nearer to the end, so long rows become short.
        groups[agent] = groups[groups[agent]]
        agent = groups[agent]
    return agent
