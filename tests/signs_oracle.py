"""Another way to find the first sign that can't be: all ways to read on are kept at once."""

BLANK, LETTERS = " \n", "abcdefghijklmnopqrstuvwxyz"

# "n" is a name, capitals stand for what is told here, all else are signs.
GRAMMAR = {
    "K": ["n", "(>KK)", "(*KK)"],
    "T": ["n", "@n", "(^nKT)", "(!TT)", "(&TT)", "(/TnnT)", "(#nL)", "(?TCD)", "(+TnnT)", "(-TT)"],
    "L": ["", "TL"],
    "C": ["(nN:T)"],
    "D": ["", "CD"],
    "N": ["", "nN"],
    "P": ["AQ"],
    "R": ["AQ", "(@nKT)F"],
    "Q": ["", "AQ", "F"],
    "F": ["", "(@nKT)F"],
    "A": ["(=nME)"],
    "M": ["(nN)"],
    "E": ["", "ME"],
}


def opened(state):
    """All states in which a sign stands first, told from this one without a sign."""
    rest, letters = state
    if rest and rest[0] in GRAMMAR:
        found = set()
        for row in GRAMMAR[rest[0]]:
            found |= opened((row + rest[1:], letters))
        return found
    return {state}


def after(state, sign):
    """The states behind a sign; letters is how many of a name have just been read, None after others."""
    rest, letters = state
    told = set()
    if letters is not None and sign in LETTERS:
        return {(rest, letters + 1)} if letters < 8 else told
    if sign in BLANK:
        return {(rest, None)}
    for row, _ in opened((rest, None)):
        if row and row[0] == "n" and sign in LETTERS:
            told.add((row[1:], 1))
        elif row and row[0] == sign and sign not in LETTERS:
            told.add((row[1:], None))
    return told


def first_bad(text, start):
    """The number of the first sign that can't be, or None, and whether the whole text writes one."""
    states = {(start, None)}
    for at, sign in enumerate(text):
        states = {new for state in states for new in after(state, sign)}
        if not states:
            return at, False
    return None, any(row == "" for state in states for row, _ in opened(state))
