"""Programs, terms and things that are none, for the tests."""

import random

from oncewire.texts import read_program, read_term

NATS = read_program("""
(= nat (z) (s nat))
(= bool (no) (yes))
(= list (nil) (cons nat list))
(@ add (> nat (> nat nat)) (^ a nat (^ b nat (? a (z : b) (s m : (# s (! (! @add m) b)))))))
(@ double (> nat nat) (^ n nat (+ n x y (! (! @add x) y))))
(@ swap (> (* nat list) (* list nat)) (^ p (* nat list) (/ p x y (& y x))))
(@ loose (> nat bool) (^ n nat (- n (# yes))))
(@ even (> nat bool) (^ n nat (? n (z : (# yes)) (s m : (? (! @even m) (no : (# yes)) (yes : (# no)))))))
(@ sum (> list nat) (^ l list (? l (nil : (# z)) (cons h t : (! (! @add h) (! @sum t))))))
(@ twice (> (> nat nat) (> nat nat)) (^ g (> nat nat) (^ n nat (! g n))))
(@ three nat (# s (# s (# s (# z)))))
""")

ALL_SIGNS = read_term(
    "(^ f (> a b) (/ (! f @g) x y (+ x c e (- y (? c (m p q : (& p q)) (o : (# k e z)))))))"
)


def deep(sign, many):
    """A term of so many terms within one another, by calls, pairs or drops."""
    term = "x"
    for _ in range(many - 1):
        term = (sign, term, "y")
    return term


def deep_kind(many, sign=">"):
    """A kind of so many kinds within one another."""
    kind = "d"
    for at in range(many - 1):
        kind = (sign, "d", kind) if at % 2 else (sign, kind, "d")
    return kind


def wide(many):
    """A term of so many parts, an uneven number, not deep."""
    rows = ["x"] * ((many + 1) // 2)
    while len(rows) > 1:
        odd = rows[len(rows) // 2 * 2:]
        rows = [("&", one, other) for one, other in zip(rows[::2], rows[1::2])] + odd
    return rows[0]


def nested(many, wrap):
    """A thing of so many things within one another."""
    thing = wrap(None)
    for _ in range(many - 1):
        thing = wrap(thing)
    return thing


def odd_things():
    """Things that are no name, kind, term or program."""
    told = [
        None, True, False, 0, 1, -1, 10 ** 40 - 1, -(10 ** 40 - 1), "", "A", "aB", "a b", "a1", "_", "\n",
        "abcdefghi", "\u00e9", "\u0430", "a\n", " a", "@", ">", "#", (), [], {}, ("a",), ["a"], {"a": 1},
        {1: "a"}, (None,), ((),), [[]], ("@",), ("@", "f", "g"), ["@", "f"], (">", "a"), [">", "a", "b"],
        (">", "a", "b", "c"), (True, "a", "b"), ([], "a", "b"), ({}, "a"), ("&", "x", None),
        ("!", "x", True), ("", "x", "y"), ("?", "x", ()), ("#", "c", []), "a" * 9000,
    ]
    for wrap in (lambda x: (x,), lambda x: [x], lambda x: {"a": x}, lambda x: {1: x}):
        told.append(nested(120, wrap))
    for sign in (">", "*", "&", "!", "-"):
        told.append(nested(120, lambda x: (sign, x, "a")))
        told.append(nested(120, lambda x: (sign, "a", x)))
    told.append(nested(60, lambda x: ("?", "a", (("c", (), x),))))
    told.append(nested(60, lambda x: ("#", "c", (x,))))
    told.append(("#", "c", ("x",) * 9990))
    told.append(("?", "x", (("c", (), "x"),) * 2000))
    told.append(["a"] * 9999)
    told.append({at: "a" for at in range(4999)})
    return told


def spoilt(thing, chance):
    """A thing with one place in it changed, by a random.Random of a told seed."""
    if isinstance(thing, (tuple, list)) and len(thing) > 0 and chance.random() < 0.85:
        at = chance.randrange(len(thing))
        rows = list(thing)
        rows[at] = spoilt(rows[at], chance)
        return tuple(rows) if isinstance(thing, tuple) else rows
    if isinstance(thing, tuple) and chance.random() < 0.5:
        return list(thing)
    if isinstance(thing, tuple) and chance.random() < 0.5:
        return thing + (chance.choice(odd_small()),)
    return chance.choice(odd_small())


def odd_small():
    """Small things to put in the place of others."""
    return [None, True, 0, "", "Q", "abcdefghi", (), [], {}, ("a",), ["a", "b"], ("@", "Q"), (">", "a")]


def chance(seed):
    """A row of numbers that is the same each time."""
    return random.Random(seed)
