"""What the ports of a program's symbols give and take."""


def ports_told(rules, symbol):
    """For each port of a symbol of the program, its head ahead, whether it gives or takes, and which kind."""
    sign, *more = symbol
    action = PORTS[sign]
    return action(rules, *more)


def ports_of_out(_rules, kind):
    """The one port of what takes the worth."""
    return (("-", kind),)


def ports_of_function(_rules, given, told):
    """A function's ports."""
    return (("+", (">", given, told)), ("+", given), ("-", told))


def ports_of_call(_rules, given, told):
    """A call's ports."""
    return (("-", (">", given, told)), ("-", given), ("+", told))


def ports_of_pair(_rules, one, other):
    """A pair's ports."""
    return (("+", ("*", one, other)), ("-", one), ("-", other))


def ports_of_parting(_rules, one, other):
    """The ports of what parts a pair."""
    return (("-", ("*", one, other)), ("+", one), ("+", other))


def ports_of_maker(rules, maker):
    """A maker's ports."""
    data, fields = rules.makers[maker]
    return (("+", data),) + tuple([("-", field) for field in fields])


def ports_of_choice(rules, k):
    """A choice's ports."""
    sheet, at = rules.choices[k]
    first = sheet.within[at][1]
    held = [sheet.kind_of_used(first, name) for name in sheet.held(at)]
    return (("-", sheet.chosen_kind(at)), ("+", sheet.kinds[at])) + tuple([("-", kind) for kind in held])


def ports_of_copy(_rules, data):
    """A copy's ports."""
    return (("-", data), ("+", data), ("+", data))


def ports_of_drop(_rules, data):
    """The one port of a drop."""
    return (("-", data),)


def ports_of_def(rules, f):
    """The one port of a def."""
    return (("+", rules.sheets[f].kinds[0]),)


PORTS = {
    "out": ports_of_out,
    "fun": ports_of_function,
    "call": ports_of_call,
    "pair": ports_of_pair,
    "part": ports_of_parting,
    "make": ports_of_maker,
    "choose": ports_of_choice,
    "copy": ports_of_copy,
    "drop": ports_of_drop,
    "def": ports_of_def,
}
