"""Runs in words: a memory in which agents are blocks of words, and moves done in it."""

from oncewire.blocks import FIRST, Blocks, free_blocks
from oncewire.defs import shown_def_of
from oncewire.errors import NoRoom
from oncewire.laying import counts_of, kept_plan, laid_of
from oncewire.meaning import MOST
from oncewire.nets import NO_MEETERS, Net
from oncewire.shapes import is_whole
from oncewire.ways import gone_on, number_of, put_way


class Words:
    """A book, a memory that goes on by moves, and what was done.

    A port's address is that of its word, an agent's the one of its block; agents has the symbols
    of those that there are. ranks and lowers have the numbers of the book's symbols in its row, and
    how many lower ports they have.
    """

    def __init__(self, book, f, *, room=4000):
        kind, _ = shown_def_of(book.program, f)
        self.book = book
        self.room = room
        self.ranks = {symbol: number for number, symbol in enumerate(book.symbols())}
        self.lowers = {symbol: book.lower(symbol) for symbol in self.ranks}
        self.blocks = Blocks()
        self.agents = {}
        self.ways = []
        self.log = []
        self.tally = {}
        self.plans = {}
        self.need_room([], [2, 2])
        out = self.put(("out", kind), 0)
        self.tie(out + 1, self.put(("def", f), 0) + 1)

    def need_room(self, freed, taken):
        """Refuses blocks of these sizes, where those of others are given back ahead, that there is no room for."""
        if self.blocks.top_after(freed, taken) > self.room:
            raise NoRoom("more words than there is room for")

    def put(self, symbol, lower):
        """Puts a new agent in, its ports still untied; its address."""
        address = self.blocks.take(2 + lower)
        self.blocks.cells[address] = 1 + self.ranks[symbol]
        self.agents[address] = symbol
        if symbol[0] == "def":
            put_way(self.ways, (address,))
        return address

    def tie(self, one, other):
        """Ties two ports; where they are heads that meet, that is a move."""
        self.blocks.cells[one] = other
        self.blocks.cells[other] = one
        heads = [port - 1 for port in (one, other) if port - 1 in self.agents]
        if len(heads) == 2 and not any([self.agents[agent][0] in NO_MEETERS for agent in heads]):
            put_way(self.ways, (min(heads), max(heads)))

    def moves_now(self):
        """The moves that can be done, rising."""
        return list(self.ways)

    def do(self, move):
        """Does a move."""
        self.do_at(number_of(self.ways, move))

    def do_at(self, at):
        """Does the move of this number."""
        move = self.ways[at]
        plan = kept_plan(self.book, self.plans, tuple([self.agents[agent] for agent in move]))
        sizes = [2 + self.lowers[symbol] for symbol in plan.symbols]
        self.need_room(sizes, [2 + lower for _, lower in plan.piece[0]])
        del self.ways[at]
        self.lay(move[::-1] if plan.turned else move, sizes, plan.piece)
        self.log.append(move)
        self.tally[plan] = self.tally.get(plan, 0) + 1

    def lay(self, agents, sizes, piece):
        """Puts a piece into the memory where these agents were, the giver ahead."""
        outer = self.outer_ends(agents, sizes)
        for agent, size in zip(agents, sizes):
            del self.agents[agent]
            self.blocks.give_back(agent, size)
        symbols, ties = piece
        heads = [1 + self.put(symbol, lower) for symbol, lower in symbols]
        for (at, place), (to, seat) in ties:
            # A port of those that went is a joint of two wires: what it was tied to, and this tie.
            # There are no rings here, so these two joints aren't tied to one another outside, too.
            one = heads[at] + place if at >= 0 else outer.pop((at, place))
            other = heads[to] + seat if to >= 0 else outer.pop((to, seat))
            self.link(outer, one, other)

    def outer_ends(self, agents, sizes):
        """What the ports that a piece names by (-1, j), (-2, j) are tied to, each other's by these names, too."""
        names = {}
        for at, agent in enumerate(agents):
            for port in range(agent + 1, agent + sizes[at]):
                names[port] = (-1 - at, port - agent - 1)
        ends = {name: self.blocks.cells[port] for port, name in names.items()}
        return {name: names.get(end, end) for name, end in ends.items()}

    def link(self, outer, one, other):
        """Ties two ports, of which each may be a joint that is still to come."""
        if is_whole(one) and is_whole(other):
            self.tie(one, other)
        if not is_whole(one):
            outer[one] = other
        if not is_whole(other):
            outer[other] = one

    def go(self, picks=(), *, most=MOST):
        """Does so many moves at most, each picked by its number; whether no move is left."""
        return gone_on(self, picks, most)

    def steps(self):
        """How many moves were done."""
        return len(self.log)

    def counts(self):
        """How many moves of each name were done."""
        return counts_of(self.tally)

    def done(self):
        """The moves done, in their order."""
        return list(self.log)

    def net_now(self):
        """The net, its agents by their addresses."""
        net = Net()
        ports = {}
        for agent in sorted(self.agents):
            lower = self.lowers[self.agents[agent]]
            net.put(self.agents[agent], lower, at=agent)
            for place in range(lower + 1):
                ports[agent + 1 + place] = (agent, place)
        for address, port in ports.items():
            end = self.blocks.cells[address]
            if address < end:
                net.tie(port, ports[end])
        return net

    def laid_now(self):
        """How often each piece of a def and of a case was laid."""
        return laid_of(self.tally)

    def words(self):
        """The memory's words."""
        return list(self.blocks.cells)


def is_memory(book, thing):
    """Whether a thing is the memory of a net of the book's symbols, all its ports tied."""
    if not isinstance(thing, list) or len(thing) < FIRST or not all([is_whole(word) for word in thing]):
        return False
    if thing[0] != len(thing) or thing[1] != 0:
        return False
    free = free_blocks(thing)
    ports = None if free is None else ports_in_blocks(book, thing, free)
    if ports is None:
        return False
    return all([thing[port] in ports and thing[port] != port and thing[thing[port]] == port for port in ports])


def ports_in_blocks(book, cells, free):
    """The addresses of the ports of agents, None where the words aren't blocks of agents and these free ones."""
    sizes = [2 + book.lower(symbol) for symbol in book.symbols()]
    ports = {}
    many = 0
    address = FIRST
    while address < len(cells):
        size = free.get(address)
        if size is None:
            if not 1 <= cells[address] <= len(sizes):
                return None
            size = sizes[cells[address] - 1]
            for port in range(address + 1, address + size):
                ports[port] = True
        else:
            many += 1
        address += size
    return ports if address == len(cells) and many == len(free) else None
