"""Other ways to what oncewire.wires tells of rings and orders, written for the tests alone."""

FORKS = {"fun", "part", "copy"}


def ports(net):
    return [(n, place) for n in net.numbers() for place in range(net.lower_of(n) + 1)]


def may_pass(net, n, one, other):
    """Whether a way may come to an agent by one port and leave it by the other."""
    return one != other and not (net.symbol_of(n)[0] in FORKS and one > 0 and other > 0)


def has_ring(net):
    """Whether there is a ring: all ways from all ports are gone, agents not met twice."""
    def on(start, first, n, came, seen):
        for out in range(net.lower_of(n) + 1):
            if not may_pass(net, n, came, out):
                continue
            end = net.end_of((n, out))
            if end is None:
                continue
            if end[0] == start and may_pass(net, start, first, end[1]):
                return True
            if end[0] not in seen and on(start, first, end[0], end[1], seen | {end[0]}):
                return True
        return False

    for n, place in ports(net):
        end = net.end_of((n, place))
        if end is None:
            continue
        if end[0] == n:
            if may_pass(net, n, place, end[1]):
                return True
        elif on(n, place, end[0], end[1], {n, end[0]}):
            return True
    return False


def good_ring(net, ring):
    """Whether these are a ring, by the words of point 19."""
    if not ring or len({n for n, _, _ in ring}) != len(ring):
        return False
    for at, (n, came, out) in enumerate(ring):
        after, seat, _ = ring[(at + 1) % len(ring)]
        if not may_pass(net, n, came, out) or net.end_of((n, out)) != (after, seat):
            return False
    return True


def good_order(net, order):
    """Whether these are an order, by the words of point 19."""
    if sorted(order) != net.numbers():
        return False
    aside = set()
    for n in order:
        aside.add(n)
        for place in range(net.lower_of(n) + 1):
            for end in reached(net, (n, place), aside):
                if end[0] == n and may_pass(net, n, place, end[1]):
                    return False
    return True


def reached(net, port, aside):
    """The ports that one comes to from a port by wires and agents that aren't aside."""
    told, waiting, seen = set(), [port], set()
    while waiting:
        end = net.end_of(waiting.pop())
        if end is None:
            continue
        told.add(end)
        if end[0] not in aside and end[0] not in seen:
            seen.add(end[0])
            waiting.extend((end[0], place) for place in range(net.lower_of(end[0]) + 1))
    return told
