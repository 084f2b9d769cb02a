"""Agents of a net taken away one behind the other, each when no way leads from it back to it."""

# What joins nothing between its two lower ports.
FORKS = ("fun", "part", "copy")


def side_of(net, agent, place):
    """A text or number that two ports of an agent share where a way from the one to the other doesn't count."""
    return "lower" if place > 0 and net.symbol_of(agent)[0] in FORKS else place


def linked(net):
    """For each agent its tied places with the ports at their ends."""
    told = {}
    for agent in net.numbers():
        row = {}
        for place in range(net.lower_of(agent) + 1):
            end = net.end_of((agent, place))
            if end is not None:
                row[place] = end
        told[agent] = row
    return told


def taken_apart(net):
    """The agents that can be taken away in their order, and the links of those that can't."""
    told = []
    links = linked(net)
    free = free_agents(net, links)
    while free:
        told.extend(free)
        gone = {agent: True for agent in free}
        links = {agent: {place: end for place, end in row.items() if end[0] not in gone}
                 for agent, row in links.items() if agent not in gone}
        free = free_agents(net, links)
    return (told, links)


def free_agents(net, links):
    """The agents from which no way leads back to them, but to the other lower port of a fork.

    A way leads on from a port and back by another one just where its wire isn't the only way
    between its two ends; so a fork is free where this holds not of its head.
    """
    bridges = bridges_of(links)
    told = []
    for agent, row in links.items():
        places = [place for place in row if side_of(net, agent, place) != "lower"]
        if all([(agent, place) in bridges for place in places]):
            told.append(agent)
    return told


def bridges_of(links):
    """The ports of the wires that are the only way between their two ends."""
    numbers, came = walked_through(links)
    lowest = {}
    told = {}
    for agent in list(numbers)[::-1]:
        low = numbers[agent]
        for place, (other, seat) in links[agent].items():
            if came[other] == seat:
                low = min(low, lowest[other])
            elif place != came[agent]:
                low = min(low, numbers[other])
        lowest[agent] = low
        if low == numbers[agent] and came[agent] is not None:
            port = (agent, came[agent])
            told[port] = True
            told[links[agent][came[agent]]] = True
    return told


def walked_through(links):
    """The agents numbered as they are come to, going on as deep as can be, and by which place each was come to."""
    numbers = {}
    came = {}
    for root in links:
        waiting = [(root, None)]
        while waiting:
            agent, place = waiting.pop()
            if agent not in numbers:
                numbers[agent] = len(numbers)
                came[agent] = place
                waiting.extend(list(links[agent].values()))
    return (numbers, came)
