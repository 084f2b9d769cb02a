"""A piece laid in a net, in the place of the agents of a move."""

from oncewire.errors import NoRule
from oncewire.nets import NO_MEETERS
from oncewire.rules import step_of


class Plan:
    """What is done where agents open or meet: their symbols, the giver ahead, and the piece that is laid.

    It is turned where the giver is the second one of the move.
    """

    def __init__(self, symbols, piece, turned):
        self.symbols = symbols
        self.piece = piece
        self.turned = turned


def planned(book, symbols):
    """The plan of a move of agents of these symbols, or None without a rule; the symbols may be any."""
    piece = book.piece(*symbols)
    if piece is not None or len(symbols) == 1:
        return None if piece is None else Plan(symbols, piece, False)
    turned = symbols[::-1]
    piece = book.piece(*turned)
    return None if piece is None else Plan(turned, piece, True)


def needed_plan(book, symbols):
    """The plan of a move of agents of these symbols."""
    plan = planned(book, symbols)
    if plan is None:
        raise NoRule("no rule for these agents")
    return plan


def kept_plan(book, plans, symbols):
    """The plan of a move of agents of these symbols of the program, kept among the plans."""
    plan = plans.get(symbols)
    if plan is None:
        plan = needed_plan(book, symbols)
        plans[symbols] = plan
    return plan


def counts_of(tally):
    """The counts of moves done, where it is told how often each plan was."""
    told = {}
    for plan, many in tally.items():
        name = step_of(*plan.symbols)
        told[name] = told.get(name, 0) + many
    return told


def laid_of(tally):
    """How often each piece of a def and of a case was laid, where it is told how often each plan was."""
    told = {}
    for plan, many in tally.items():
        if plan.symbols[0][0] == "def" or plan.symbols[1][0] == "choose":
            told[plan.symbols] = told.get(plan.symbols, 0) + many
    return told


def lay(net, agents, piece, moment, times):
    """Puts a piece into this very net where these agents were, the giver ahead; the moves that came.

    The wires that come get this moment, or the greatest one of the old wires in them; times tells
    the moments of wires by each of their two ports, where they aren't 0.
    """
    symbols, ties = piece
    ends = net.ends
    if len(agents) == 2:
        for agent in agents:
            del ends[(agent, 0)]
            times.pop((agent, 0), None)
    first = net.following
    came = renewed(net, agents, symbols)
    for (at, place), (to, seat) in ties:
        time = moment
        one = (first + at, place)
        other = (first + to, seat)
        # A port of those that went is a joint of two wires: what it was tied to, and this tie.
        if at < 0:
            joint = (agents[-1 - at], place)
            time = max(time, times.pop(joint, 0))
            one = ends.pop(joint, None)
        if to < 0:
            joint = (agents[-1 - to], seat)
            time = max(time, times.pop(joint, 0))
            other = ends.pop(joint, None)
            if one == joint:
                continue
        if one is None or other is None:
            untie(ends, times, other if one is None else one)
            continue
        ends[one] = other
        ends[other] = one
        times[one] = times[other] = time
        if one[1] == 0 and other[1] == 0:
            came.extend(meeting(net, one[0], other[0]))
    return came


def renewed(net, agents, symbols):
    """Takes agents out of the net's rows and puts new ones in; the moves of those that open."""
    rows = net.rows
    for agent in agents:
        del rows[agent]
    came = []
    for row in symbols:
        number = net.following
        rows[number] = row
        net.following = number + 1
        if row[0][0] == "def":
            came.append((number,))
    return came


def untie(ends, times, port):
    """Unties a port, perhaps none, from what went."""
    ends.pop(port, None)
    times.pop(port, None)


def meeting(net, agent, other):
    """The move of two whose heads face one another, in a row of none or one."""
    if net.rows[agent][0][0] in NO_MEETERS or net.rows[other][0][0] in NO_MEETERS:
        return []
    return [(agent, other) if agent < other else (other, agent)]
