"""Nets written as lines of numbers, and read from them."""

from oncewire.errors import NoLine, NoPort, NoSymbol
from oncewire.nets import Net, ports_of
from oncewire.shapes import is_whole


def line_of(book, net):
    """The line of a net of the book's symbols, all its ports tied."""
    ranks = {symbol: number for number, symbol in enumerate(book.symbols())}
    if not all([is_of_row(book, ranks, net, agent) for agent in net.numbers()]):
        raise NoSymbol("no symbol of the book, or other lower ports")
    ports = [port for agent in net.numbers() for port in ports_of(net, agent)]
    numbers = {port: number for number, port in enumerate(ports)}
    told = [len(net)]
    for port in ports:
        end = net.end_of(port)
        if end is None:
            raise NoPort("an untied port")
        if port[1] == 0:
            told.append(ranks[net.symbol_of(port[0])])
        told.append(numbers[end])
    return tuple(told)


def is_of_row(book, ranks, net, agent):
    """Whether an agent has one of the book's symbols, and as many lower ports as that."""
    symbol = net.symbol_of(agent)
    # Only a symbol of the program may be looked for: no other one needs to fit a dict.
    return book.rules.has(symbol) and symbol in ranks and net.lower_of(agent) == book.lower(symbol)


def net_of(book, line):
    """The net of a line, its agents numbered from 0 on; the line may be anything."""
    if not isinstance(line, tuple) or not all([is_whole(number) for number in line]):
        raise NoLine("no row of whole numbers")
    net = Net()
    ends = read_agents(book, line, net)
    ports = [port for agent in net.numbers() for port in ports_of(net, agent)]
    for at, end in enumerate(ends):
        if not 0 <= end < len(ends) or end == at or ends[end] != at:
            raise NoLine("an end that doesn't go with its own end")
        if at < end:
            net.tie(ports[at], ports[end])
    return net


def read_agents(book, line, net):
    """Puts a line's agents into a net of none; the numbers of the ends of their ports."""
    symbols = book.symbols()
    ends = []
    at = 1
    while at < len(line):
        if not 0 <= line[at] < len(symbols):
            raise NoLine("no number of a symbol")
        symbol = symbols[line[at]]
        lower = book.lower(symbol)
        net.put(symbol, lower)
        ends.extend(line[at + 1:at + 2 + lower])
        at += 2 + lower
    if at > len(line) or len(net) != line[0]:
        raise NoLine("too few or too many numbers")
    return ends
