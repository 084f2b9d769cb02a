"""Runs: moves done in nets, one behind the other or in beats, counted, with their moments."""

from oncewire.defs import shown_def_of
from oncewire.errors import NoMove, NoRule
from oncewire.laying import counts_of, kept_plan, laid_of, lay, needed_plan
from oncewire.meaning import MOST
from oncewire.nets import Net, is_move, moves
from oncewire.ways import gone_on, number_of, put_way


def laid(book, net, move):
    """The net that comes of a net where a move of it is done."""
    if not is_move(net, move):
        raise NoMove("no move of the net")
    plan = needed_plan(book, tuple([net.symbol_of(agent) for agent in move]))
    told = net.copy()
    lay(told, move[::-1] if plan.turned else move, plan.piece, 0, {})
    return told


def started(book, f):
    """The net that a def's run starts with."""
    kind, _ = shown_def_of(book.program, f)
    net = Net()
    net.put(("out", kind))
    net.put(("def", f))
    net.tie((0, 0), (1, 0))
    return net


class Run:
    """A book, a net that goes on by moves, and what was done.

    ages and times tell the moments of agents and of wires by their ports, where they aren't 0.
    plans keeps what was found for symbols of the program, which alone surely fit a dict; strange
    has the agents of a net by hand whose symbols are others.
    """

    def __init__(self, book, f, *, net=None):
        self.book = book
        self.net = started(book, f) if net is None else net.copy()
        self.ways = moves(self.net)
        self.log = []
        self.tally = {}
        self.plans = {}
        self.ages = {}
        self.times = {}
        self.top = 0
        self.strange = {agent: True for agent in self.net.numbers() if not book.rules.has(self.net.symbol_of(agent))}

    def moves_now(self):
        """The moves that can be done, rising."""
        return list(self.ways)

    def do(self, move):
        """Does a move."""
        self.do_at(number_of(self.ways, move))

    def do_at(self, at):
        """Does the move of this number."""
        plan = self.plan_of(self.ways[at])
        self.act(self.ways.pop(at), plan)

    def plan_of(self, move):
        """The plan of a move."""
        if len(self.strange) > 0 and any([agent in self.strange for agent in move]):
            raise NoRule("no rule for these agents")
        rows = self.net.rows
        return kept_plan(self.book, self.plans, tuple([rows[agent][0] for agent in move]))

    def act(self, move, plan):
        """Does a move that is taken out of the ways already."""
        ages = self.ages
        olds = [ages.pop(agent, 0) for agent in move]
        if len(move) == 2:
            olds.append(self.times.get((move[0], 0), 0))
        moment = 1 + max(olds)
        first = self.net.following
        came = lay(self.net, move[::-1] if plan.turned else move, plan.piece, moment, self.times)
        for number in range(first, self.net.following):
            ages[number] = moment
        for way in came:
            put_way(self.ways, way)
        self.log.append(move)
        self.tally[plan] = self.tally.get(plan, 0) + 1
        self.top = max(self.top, moment)

    def go(self, picks=(), *, most=MOST):
        """Does so many moves at most, each picked by its number; whether no move is left."""
        return gone_on(self, picks, most)

    def beat(self, *, hands=None):
        """Does the first moves of those that there are now, as many as there are hands; how many."""
        rows = list(self.ways) if hands is None else self.ways[:hands]
        del self.ways[:len(rows)]
        for at, move in enumerate(rows):
            try:
                plan = self.plan_of(move)
            except NoRule:
                self.ways = sorted(rows[at:] + self.ways)
                raise
            self.act(move, plan)
        return len(rows)

    def greatest(self):
        """The greatest moment of the moves done."""
        return self.top

    def steps(self):
        """How many moves were done."""
        return len(self.log)

    def counts(self):
        """How many moves of each name were done."""
        return counts_of(self.tally)

    def done(self):
        """The moves done, in their order."""
        return list(self.log)

    def net_now(self):
        """The net."""
        return self.net.copy()

    def laid_now(self):
        """How often each piece of a def and of a case was laid."""
        return laid_of(self.tally)

    def copy(self):
        """A run that goes on by itself from here."""
        other = Run(self.book, None, net=Net())
        other.net = self.net.copy()
        other.ways = list(self.ways)
        other.log = list(self.log)
        other.tally = {plan: many for plan, many in self.tally.items()}
        other.plans = {symbols: plan for symbols, plan in self.plans.items()}
        other.ages = {agent: moment for agent, moment in self.ages.items()}
        other.times = {port: moment for port, moment in self.times.items()}
        other.top = self.top
        other.strange = {agent: True for agent in self.strange}
        return other
