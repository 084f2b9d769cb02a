"""Nets: agents by numbers, ports, ties between ports; moves of a net, and nets that are alike."""

from oncewire.errors import NoAgent, NoPort, Tied
from oncewire.shapes import is_row, is_whole

MOST_ROUNDS = 8
# What heads that face one another don't meet by.
NO_MEETERS = ("out", "def")


class Net:
    """Agents by rising numbers, each a row of its symbol and how many lower ports it has."""

    def __init__(self):
        self.rows = {}
        self.ends = {}
        self.following = 0

    def put(self, symbol, lower=0, *, at=None):
        """Puts a new agent in, with the next number or a later one that is told; its number."""
        number = self.following if at is None else at
        if not is_whole(number) or number < self.following:
            raise NoAgent("no number for a new agent")
        self.rows[number] = (symbol, lower)
        self.following = number + 1
        return number

    def tie(self, port, other):
        """Ties two ports to one another."""
        self.need_port(port)
        self.need_port(other)
        if port == other or port in self.ends or other in self.ends:
            raise Tied("tied already, or one port alone")
        self.ends[port] = other
        self.ends[other] = port

    def take_away(self, agent):
        """Takes an agent away; what it was tied to is untied."""
        for place in range(self.lower_of(agent) + 1):
            end = self.ends.pop((agent, place), None)
            if end is not None:
                del self.ends[end]
        del self.rows[agent]

    def numbers(self):
        """The agents' numbers, rising."""
        return list(self.rows)

    def symbol_of(self, agent):
        """An agent's symbol."""
        self.need_agent(agent)
        return self.rows[agent][0]

    def lower_of(self, agent):
        """How many lower ports an agent has."""
        self.need_agent(agent)
        return self.rows[agent][1]

    def end_of(self, port):
        """The port that a port is tied to, None where it is untied."""
        self.need_port(port)
        return self.ends.get(port)

    def copy(self):
        """A net like this one, with the same numbers and the same next one."""
        other = Net()
        other.rows = {number: self.rows[number] for number in self.rows}
        other.ends = {port: self.ends[port] for port in self.ends}
        other.following = self.following
        return other

    def __len__(self):
        return len(self.rows)

    def __eq__(self, other):
        # A truth in a symbol is no whole number, though Python takes the two for equal.
        return isinstance(other, Net) and repr(self.rows) == repr(other.rows) and self.ends == other.ends

    def has_agent(self, thing):
        """Whether a thing is the number of an agent."""
        return is_whole(thing) and thing in self.rows

    def need_agent(self, thing):
        """Refuses what is no agent."""
        if not self.has_agent(thing):
            raise NoAgent("no agent of the net")

    def has_port(self, thing):
        """Whether a thing is a port of an agent."""
        if not is_row(thing, 2, 2) or not self.has_agent(thing[0]) or not is_whole(thing[1]):
            return False
        return 0 <= thing[1] <= self.rows[thing[0]][1]

    def need_port(self, thing):
        """Refuses what is no port."""
        if not self.has_port(thing):
            raise NoPort("no port of the net")


def ports_of(net, agent):
    """An agent's ports, its head ahead."""
    return [(agent, place) for place in range(net.lower_of(agent) + 1)]


def moves(net):
    """The moves of a net, rising."""
    told = [move_from(net, agent) for agent in net.numbers()]
    return [move for move in told if move is not None]


def move_from(net, agent):
    """The move of a net in which this agent stands first, or None."""
    sign = net.symbol_of(agent)[0]
    if sign == "def":
        return (agent,)
    end = net.end_of((agent, 0))
    if sign == "out" or end is None or end[1] != 0 or end[0] < agent:
        return None
    return None if net.symbol_of(end[0])[0] in NO_MEETERS else (agent, end[0])


def is_move(net, thing):
    """Whether a thing is a move of a net."""
    if not is_row(thing, 1, 2) or not all([net.has_agent(agent) for agent in thing]):
        return False
    return move_from(net, thing[0]) == thing


def alike(net, other):
    """A pairing of two nets' agents, or None where they aren't alike."""
    shades, others = shaded([net, other])
    if sorted(list(shades.values())) != sorted(list(others.values())):
        return None
    groups = grouped(others)
    counts = {shade: len(groups[shade]) for shade in groups}
    told = {}
    taken = {}
    # A rare shade leaves few agents to try, and one that is paired pairs all that hang on it.
    for agent in sorted(shades, key=lambda one: (counts[shades[one]], shades[one], one)):
        if agent not in told:
            found = found_pairing(net, other, agent, groups[shades[agent]], taken)
            if found is None:
                return None
            for one, image in found.items():
                told[one] = image
                taken[image] = one
    return told


def shaded(nets):
    """For each net a dict from its agents to shades; agents that can be paired have the same shade."""
    rows = [(at, agent) for at, net in enumerate(nets) for agent in net.numbers()]
    sizes = [sizes_of(net) for net in nets]
    shades = [{} for _ in nets]
    seen = {}
    for at, agent in rows:
        # A symbol may be a tuple of any depth: so a text stands for it.
        sign = (sizes[at][agent], nets[at].lower_of(agent), repr(nets[at].symbol_of(agent)))
        shades[at][agent] = seen.setdefault(sign, len(seen))
    for _ in range(MOST_ROUNDS):
        many = len(seen)
        seen = {}
        finer = [{} for _ in nets]
        for at, agent in rows:
            sign = (shades[at][agent], ends_shaded(nets[at], shades[at], agent))
            finer[at][agent] = seen.setdefault(sign, len(seen))
        shades = finer
        if len(seen) == many:
            break
    return shades


def sizes_of(net):
    """For each agent how many agents hang together with it."""
    told = {}
    for agent in net.numbers():
        if agent not in told:
            together = hanging_on(net, agent)
            for one in together:
                told[one] = len(together)
    return told


def hanging_on(net, agent):
    """An agent and all that hang together with it."""
    told = [agent]
    seen = {agent: True}
    at = 0
    while at < len(told):
        for port in ports_of(net, told[at]):
            end = net.end_of(port)
            if end is not None and end[0] not in seen:
                seen[end[0]] = True
                told.append(end[0])
        at += 1
    return told


def ends_shaded(net, shades, agent):
    """What an agent's ports are tied to, as far as shades and places tell it."""
    ends = [net.end_of(port) for port in ports_of(net, agent)]
    return tuple([None if end is None else (shades[end[0]], end[1]) for end in ends])


def grouped(shades):
    """The agents of each shade."""
    told = {}
    for agent, shade in shades.items():
        told.setdefault(shade, []).append(agent)
    return told


def found_pairing(net, other, agent, images, taken):
    """A pairing of all that hangs on an agent with what is not taken yet, or None; images are tried from the end."""
    while images and images[-1] in taken:
        images.pop()
    for at in reversed(range(len(images))):
        if images[at] not in taken:
            found = walked(net, other, agent, images[at])
            if found is not None:
                return found
    return None


def walked(net, other, agent, image):
    """The pairing of all that hangs on an agent where it is paired with its image, or None.

    As many agents hang on the image: so where all ends go with ends, each of them is met just once.
    """
    told = {agent: image}
    rows = [agent]
    while rows:
        one = rows.pop()
        if not are_rows_alike(net, other, one, told[one]):
            return None
        for place in range(net.lower_of(one) + 1):
            end = net.end_of((one, place))
            facing = other.end_of((told[one], place))
            if end is None and facing is None:
                continue
            if end is None or facing is None or end[1] != facing[1]:
                return None
            if end[0] not in told:
                told[end[0]] = facing[0]
                rows.append(end[0])
            elif told[end[0]] != facing[0]:
                return None
    return told


def are_rows_alike(net, other, agent, image):
    """Whether two agents have the same symbol and as many lower ports."""
    same = repr(net.symbol_of(agent)) == repr(other.symbol_of(image))
    return same and net.lower_of(agent) == other.lower_of(image)


def is_pairing(net, other, thing):
    """Whether a thing is a pairing of two nets' agents."""
    if not isinstance(thing, dict) or len(thing) != len(net) or len(thing) != len(other):
        return False
    if not all([net.has_agent(agent) for agent in thing]):
        return False
    if not all([other.has_agent(image) for image in thing.values()]):
        return False
    if len(set(list(thing.values()))) != len(thing):
        return False
    return all([are_rows_alike(net, other, agent, thing[agent]) and are_ends_paired(net, other, agent, thing)
                for agent in thing])


def are_ends_paired(net, other, agent, pairing):
    """Whether the ends of an agent's ports go with those of the agent's that it is paired with."""
    for place in range(net.lower_of(agent) + 1):
        end = net.end_of((agent, place))
        image = None if end is None else (pairing[end[0]], end[1])
        if other.end_of((pairing[agent], place)) != image:
            return False
    return True
