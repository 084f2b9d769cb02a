"""Agents of a net taken away one behind the other, each when no way leads from it back to it."""

# What joins nothing between its two lower ports.
FORKS = ("fun", "part", "copy")


def side_of(net, agent, place):
    """A text or number that two ports of an agent share where a way from the one to the other doesn't count."""
    return "lower" if place > 0 and net.symbol_of(agent)[0] in FORKS else place


def linked(net):
    """For each agent its tied places with the ports at their ends."""
    told = {}
    for agent in net.numbers():
        row = {}
        for place in range(net.lower_of(agent) + 1):
            end = net.end_of((agent, place))
            if end is not None:
                row[place] = end
        told[agent] = row
    return told


def taken_apart(net):
    """The agents that can be taken away in their order, and the links of those that can't."""
    told = []
    links = linked(net)
    many = -1
    while len(told) != many:
        many = len(told)
        take_free(net, links, told)
    return (told, links)


def take_free(net, links, told):
    """Takes away the agents that are free, and those that come to be so by that, as far as old bridges tell it."""
    bridges = bridges_of(links)
    waiting = list(links)
    while waiting:
        agent = waiting.pop()
        if agent in links and is_free(net, links, bridges, agent):
            told.append(agent)
            for other, seat in list(links.pop(agent).values()):
                if other != agent:
                    del links[other][seat]
                    waiting.append(other)


def is_free(net, links, bridges, agent):
    """Whether no way leads from an agent back to it, but from the one lower port of a fork to its other one.

    A way leads on from a port and back by another one just where its wire isn't the only way
    between its two ends; so a fork is free where this holds not of its head.
    """
    places = [place for place in links[agent] if side_of(net, agent, place) != "lower"]
    return all([(agent, place) in bridges for place in places])


def bridges_of(links):
    """The ports of the wires that are the only way between their two ends."""
    numbers, came = walked_through(links)
    lowest = {}
    told = {}
    for agent in list(numbers)[::-1]:
        low = numbers[agent]
        for place, (other, seat) in links[agent].items():
            if came[other] == seat:
                low = min(low, lowest[other])
            elif place != came[agent]:
                low = min(low, numbers[other])
        lowest[agent] = low
        if low == numbers[agent] and came[agent] is not None:
            port = (agent, came[agent])
            told[port] = True
            told[links[agent][came[agent]]] = True
    return told


def walked_through(links):
    """The agents numbered as they are come to, going on as deep as can be, and by which place each was come to."""
    numbers = {}
    came = {}
    for root in links:
        waiting = [(root, None)]
        while waiting:
            agent, place = waiting.pop()
            if agent not in numbers:
                numbers[agent] = len(numbers)
                came[agent] = place
                waiting.extend(list(links[agent].values()))
    return (numbers, came)
