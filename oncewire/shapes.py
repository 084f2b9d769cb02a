"""Names, kinds, terms and programs: what is one, what stands in one, and names exchanged."""

LETTERS = "abcdefghijklmnopqrstuvwxyz"
MOST_LETTERS = 8
MOST_KINDS_WITHIN = 6
MOST_TERMS_WITHIN = 30
MOST_PARTS = 200
MOST_FIELDS = 4
MOST_CASES = 6
MOST_DATAS = 6
MOST_MAKERS = 6
MOST_DEFS = 16

# For each sign of a term, what stands behind it. The name behind "@" is a def's, the one behind
# "#" a maker's, all others are local names.
FORMS = {
    "@": ("name",),
    "^": ("name", "kind", "term"),
    "!": ("term", "term"),
    "&": ("term", "term"),
    "/": ("term", "name", "name", "term"),
    "#": ("name", "terms"),
    "?": ("term", "cases"),
    "+": ("term", "name", "name", "term"),
    "-": ("term", "term"),
}


def is_row(thing, least, most):
    """Whether a thing is a tuple of so many things."""
    return isinstance(thing, tuple) and least <= len(thing) <= most


def is_whole(thing):
    """Whether a thing is a whole number; a truth is none."""
    return isinstance(thing, int) and not isinstance(thing, bool)


def are_unlike(names):
    """Whether no two of these names are alike."""
    return len(set(names)) == len(names)


def is_name(thing):
    """Whether a thing is a name: a text of one to eight small letters."""
    if not isinstance(thing, str) or not 1 <= len(thing) <= MOST_LETTERS:
        return False
    return all([letter in LETTERS for letter in thing])


def is_kind(thing):
    """Whether a thing is a kind."""
    return is_kind_within(thing, MOST_KINDS_WITHIN)


def is_kind_within(thing, most):
    """Whether a thing is a kind of at most so many kinds within one another."""
    if isinstance(thing, str):
        return is_name(thing)
    if most == 1 or not is_row(thing, 3, 3) or thing[0] not in (">", "*"):
        return False
    return is_kind_within(thing[1], most - 1) and is_kind_within(thing[2], most - 1)


def is_shown(kind):
    """Whether no function's kind stands in a kind."""
    if isinstance(kind, str):
        return True
    return kind[0] != ">" and is_shown(kind[1]) and is_shown(kind[2])


def is_term(thing):
    """Whether a thing is a term."""
    rows = [(thing, 1)]
    many = 0
    while rows:
        one, within = rows.pop()
        many += 1
        # The counts are looked at ahead of all else: so a great worth is told without a long way.
        if many > MOST_PARTS or within > MOST_TERMS_WITHIN or not is_formed(one):
            return False
        rows.extend([(inner, within + 1) for _, inner in below(one)])
    return True


def is_formed(thing):
    """Whether a thing is formed as a term is, whatever stands in the places of terms in it."""
    if isinstance(thing, str):
        return is_name(thing)
    if not isinstance(thing, tuple) or len(thing) == 0:
        return False
    if not isinstance(thing[0], str) or thing[0] not in FORMS:
        return False
    slots = FORMS[thing[0]]
    if len(thing) != 1 + len(slots):
        return False
    if not all([fits_slot(slot, item) for slot, item in zip(slots, thing[1:])]):
        return False
    return thing[0] not in ("/", "+") or thing[2] != thing[3]


def fits_slot(slot, thing):
    """Whether a thing may stand in such a place of a term, terms not looked at."""
    if slot == "name":
        return is_name(thing)
    if slot == "kind":
        return is_kind(thing)
    if slot == "terms":
        return is_row(thing, 0, MOST_FIELDS)
    if slot == "cases":
        return is_row(thing, 1, MOST_CASES) and all([is_case(row) for row in thing])
    return True


def is_case(thing):
    """Whether a thing is formed as a case is, its term not looked at."""
    if not is_row(thing, 3, 3):
        return False
    maker, names, _ = thing
    if not is_name(maker) or not is_row(names, 0, MOST_FIELDS):
        return False
    return all([is_name(name) for name in names]) and are_unlike(names)


def below(term):
    """The terms right in a term, in order, each with the names that are given to it there."""
    if isinstance(term, str) or term[0] == "@":
        return []
    if term[0] == "^":
        return [((term[1],), term[3])]
    if term[0] in ("/", "+"):
        return [((), term[1]), ((term[2], term[3]), term[4])]
    if term[0] == "#":
        return [((), inner) for inner in term[2]]
    if term[0] == "?":
        return [((), term[1])] + [(names, inner) for _, names, inner in term[2]]
    return [((), term[1]), ((), term[2])]


def parts(term):
    """A term and all terms in it, each ahead of its own."""
    told = []
    rows = [term]
    while rows:
        one = rows.pop()
        told.append(one)
        rows.extend([inner for _, inner in below(one)][::-1])
    return told


def uses(term):
    """The names that a term uses, in the order in which they first stand in it."""
    told = []
    rows = [(term, ())]
    while rows:
        one, given = rows.pop()
        if isinstance(one, str) and one not in given and one not in told:
            told.append(one)
        rows.extend([(inner, given + names) for names, inner in below(one)][::-1])
    return told


def is_program(thing):
    """Whether a thing is a program."""
    return is_row(thing, 2, 2) and are_datas(thing[0]) and are_defs(thing[1])


def are_datas(thing):
    """Whether a thing is a program's tuple of data kinds with their makers."""
    if not is_row(thing, 1, MOST_DATAS) or not all([is_data(row) for row in thing]):
        return False
    datas = [name for name, _ in thing]
    makers = [maker for _, rows in thing for maker, _ in rows]
    fields = [field for _, rows in thing for _, row in rows for field in row]
    return are_unlike(datas) and are_unlike(makers) and all([field in datas for field in fields])


def is_data(thing):
    """Whether a thing is formed as a data kind with its makers is."""
    if not is_row(thing, 2, 2) or not is_name(thing[0]) or not is_row(thing[1], 1, MOST_MAKERS):
        return False
    return all([is_maker(row) for row in thing[1]])


def is_maker(thing):
    """Whether a thing is formed as a maker with its fields is."""
    if not is_row(thing, 2, 2) or not is_name(thing[0]) or not is_row(thing[1], 0, MOST_FIELDS):
        return False
    return all([is_name(field) for field in thing[1]])


def are_defs(thing):
    """Whether a thing is a program's tuple of defs."""
    if not is_row(thing, 0, MOST_DEFS) or not all([is_def(row) for row in thing]):
        return False
    return are_unlike([name for name, _, _ in thing])


def is_def(thing):
    """Whether a thing is a def: a name, a kind, a term."""
    return is_row(thing, 3, 3) and is_name(thing[0]) and is_kind(thing[1]) and is_term(thing[2])


def exchanged(program, names):
    """A program with all names in it exchanged at once, those that names tells."""
    datas = []
    for data, makers in program[0]:
        rows = [(names.get(maker, maker), exchanged_names(row, names)) for maker, row in makers]
        datas.append((names.get(data, data), tuple(rows)))
    defs = []
    for name, kind, term in program[1]:
        defs.append((names.get(name, name), exchanged_kind(kind, names), exchanged_term(term, names)))
    return (tuple(datas), tuple(defs))


def exchanged_names(row, names):
    """A tuple of names with its names exchanged."""
    return tuple([names.get(name, name) for name in row])


def exchanged_kind(kind, names):
    """A kind with its names exchanged."""
    if isinstance(kind, str):
        return names.get(kind, kind)
    return (kind[0], exchanged_kind(kind[1], names), exchanged_kind(kind[2], names))


def exchanged_term(term, names):
    """A term with its names exchanged."""
    if isinstance(term, str):
        return names.get(term, term)
    items = [exchanged_item(slot, item, names) for slot, item in zip(FORMS[term[0]], term[1:])]
    return (term[0], *items)


def exchanged_item(slot, item, names):
    """What stands in such a place of a term, with its names exchanged."""
    if slot == "name":
        return names.get(item, item)
    if slot == "kind":
        return exchanged_kind(item, names)
    if slot == "terms":
        return tuple([exchanged_term(inner, names) for inner in item])
    if slot == "cases":
        return tuple([exchanged_case(row, names) for row in item])
    return exchanged_term(item, names)


def exchanged_case(row, names):
    """A case with its names exchanged."""
    maker, given, inner = row
    return (names.get(maker, maker), exchanged_names(given, names), exchanged_term(inner, names))
