"""Runs: moves done in nets, one behind the other or in beats, counted, with their moments."""

from oncewire.defs import shown_def_of
from oncewire.errors import NoMove, NoRule
from oncewire.laying import lay, ordered
from oncewire.meaning import MOST
from oncewire.nets import Net, is_move, move_from, moves, ports_of
from oncewire.rules import step_of


def laid(book, net, move):
    """The net that comes of a net where a move of it is done."""
    agents, piece = allowed(book, net, move)
    told = net.copy()
    lay(told, agents, piece)
    return told


def allowed(book, net, move):
    """A move's agents, the giver ahead, and the piece that takes their place; the move may be anything."""
    if not is_move(net, move):
        raise NoMove("no move of the net")
    agents, piece = ordered(book, net, move)
    if piece is None:
        raise NoRule("no rule for these agents")
    return (agents, piece)


def started(book, f):
    """The net that a def's run starts with."""
    kind, _ = shown_def_of(book.program, f)
    net = Net()
    net.put(("out", kind))
    net.put(("def", f))
    net.tie((0, 0), (1, 0))
    return net


class Run:
    """A book, a net that goes on by moves, and what was done.

    Numbers are never used again, so the moments of agents and ports that are gone may stay.
    """

    def __init__(self, book, f, *, net=None):
        self.book = book
        self.net = started(book, f) if net is None else net.copy()
        self.ways = {move: True for move in moves(self.net)}
        self.log = []
        self.tally = {}
        self.pieces_laid = {}
        self.agent_moments = {agent: 0 for agent in self.net.numbers()}
        self.wire_moments = {port: 0 for agent in self.net.numbers() for port in ports_of(self.net, agent)}
        self.top = 0

    def moves_now(self):
        """The moves that can be done, rising."""
        return sorted(self.ways)

    def do(self, move):
        """Does a move."""
        agents, piece = allowed(self.book, self.net, move)
        symbols = tuple([self.net.symbol_of(agent) for agent in agents])
        moment = self.moment_of(agents)
        numbers, wires = lay(self.net, agents, piece)
        for agent in numbers:
            self.agent_moments[agent] = moment
        for one, other, through in wires:
            olds = [self.wire_moments[(agents[-1 - at], place)] for at, place in through]
            self.wire_moments[one] = self.wire_moments[other] = max([moment] + olds)
        self.note(move, symbols, moment)
        del self.ways[move]
        self.find_ways(numbers, wires)

    def moment_of(self, agents):
        """The moment of a move of these agents."""
        olds = [self.agent_moments[agent] for agent in agents]
        if len(agents) == 2:
            olds.append(self.wire_moments[(agents[0], 0)])
        return 1 + max(olds)

    def note(self, move, symbols, moment):
        """Puts down that a move was done."""
        self.log.append(move)
        self.top = max(self.top, moment)
        name = step_of(*symbols)
        self.tally[name] = self.tally.get(name, 0) + 1
        if symbols[0][0] == "def" or symbols[1][0] == "choose":
            self.pieces_laid[symbols] = self.pieces_laid.get(symbols, 0) + 1

    def find_ways(self, numbers, wires):
        """Finds the moves that came with new agents and wires."""
        agents = list(numbers)
        for one, other, _ in wires:
            if one[1] == 0 and other[1] == 0:
                agents.append(min(one[0], other[0]))
        for agent in agents:
            move = move_from(self.net, agent)
            if move is not None:
                self.ways[move] = True

    def go(self, picks=(), *, most=MOST):
        """Does so many moves at most, each picked by its number; whether no move is left."""
        many = 0
        while many < most and self.ways:
            rows = self.moves_now()
            pick = picks[many] if many < len(picks) else 0
            self.do(rows[pick % len(rows)])
            many += 1
        return len(self.ways) == 0

    def beat(self, *, hands=None):
        """Does the first moves of those that there are now, as many as there are hands; how many."""
        rows = self.moves_now()
        if hands is not None:
            rows = rows[:hands]
        for move in rows:
            self.do(move)
        return len(rows)

    def greatest(self):
        """The greatest moment of the moves done."""
        return self.top

    def steps(self):
        """How many moves were done."""
        return len(self.log)

    def counts(self):
        """How many moves of each name were done."""
        return {name: self.tally[name] for name in self.tally}

    def done(self):
        """The moves done, in their order."""
        return list(self.log)

    def net_now(self):
        """The net."""
        return self.net.copy()

    def laid_now(self):
        """How often each piece of a def and of a case was laid."""
        return {symbols: self.pieces_laid[symbols] for symbols in self.pieces_laid}

    def copy(self):
        """A run that goes on by itself from here."""
        other = Run(self.book, None, net=self.net)
        other.log = self.done()
        other.tally = self.counts()
        other.pieces_laid = self.laid_now()
        other.agent_moments = {agent: self.agent_moments[agent] for agent in self.agent_moments}
        other.wire_moments = {port: self.wire_moments[port] for port in self.wire_moments}
        other.top = self.top
        return other
