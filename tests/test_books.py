"""Points 2, 12, 13 and 14: oncewire.books."""

import copy
import unittest

from oncewire.books import Book
from oncewire.errors import NoKind, NoSymbol
from oncewire.kinds import let_by
from oncewire.nets import Net, alike, moves
from oncewire.shapes import exchanged, is_shown, parts, uses
from oncewire.texts import read_kind, read_program

from chances import programs
from samples import NATS, chance, deep_kind, odd_things
from worths import OtherNet, choice_kinds, merged, port_kind

DATA = "(= n (z) (s n)) (= b (no) (yes)) (= l (nil) (cons n l)) (= w (only n b l))"

PROGRAM = read_program(DATA + """
(@ f (> n b) (^ x n (? x (z : (# yes)) (s m : (? (! @f m) (no : (# yes)) (yes : (# no)))))))
(@ g (* n l) (/ (& (# nil) (# z)) a c (+ c x y (- x (& y a)))))
(@ h (> b (> n (> l (* l n)))) (^ c b (^ a n (^ e l (? c (no : (& e a)) (yes : (/ (& a e) k m (& m k))))))))
(@ i (> (> n b) b) (^ u (> n b) (! u (# z))))
(@ j n (? (? (# yes) (no : (# z)) (yes : (# s (# z)))) (z : (# z)) (s d : (? d (z : (# z)) (s e : e)))))
""")

# The choices: f's two, h's one, j's: the outer one, the one that it is by, the one in its case.
F_OUTER, F_INNER, H, J_OUTER, J_BY, J_CASE = range(6)


def symbol(text):
    """A symbol by its words, kinds as they are written."""
    rows, deep = [""], 0
    for sign in text:
        deep += {"(": 1, ")": -1}.get(sign, 0)
        if sign == " " and deep == 0:
            rows.append("")
        else:
            rows[-1] += sign
    if rows[0] == "choose":
        return ("choose", int(rows[1]))
    if rows[0] in ("out", "fun", "call", "pair", "part"):
        return (rows[0], *[read_kind(row) for row in rows[1:]])
    return tuple(rows)


def piece_of(symbols, ties):
    """A piece as it is compared: symbols by their words and lower ports, ties in any order and either way."""
    told = []
    for row in [row for row in symbols.split("; ") if row]:
        words, lower = row.rsplit(" ", 1)
        told.append((symbol(words), int(lower)))
    return (tuple(told), {frozenset(tie) for tie in ties})


def loose(piece):
    """A piece with its ties in any order and either way about."""
    return (piece[0], {frozenset(tie) for tie in piece[1]})


def net_of(piece):
    """A net of a piece, with an agent for each end outside."""
    net = Net()
    for one, lower in piece[0]:
        net.put(one, lower)
    for one, other in piece[1]:
        ends = [(net.put(("end", *x)), 0) if x[0] < 0 else x for x in (one, other)]
        net.tie(*ends)
    return net


class Symbols(unittest.TestCase):

    BOOK = Book(PROGRAM)

    LOWERS = [
        ("out n", 0), ("out (* n l)", 0), ("out (> n (> b (* n w)))", 0), ("out (> (> n n) b)", 0), ("fun n b", 2),
        ("fun (> n n) (* b w)", 2), ("call n b", 2), ("call l (> l l)", 2), ("pair n n", 2), ("pair (> b b) w", 2),
        ("part w (* w w)", 2), ("make z", 0), ("make s", 1), ("make no", 0), ("make cons", 2), ("make only", 3), ("make nil", 0),
        ("choose 0", 1), ("choose 1", 1), ("choose 2", 3), ("choose 3", 1), ("choose 5", 1), ("copy n", 2), ("copy w", 2), ("drop b", 0),
        ("drop l", 0), ("def f", 0), ("def g", 0), ("def j", 0),
    ]

    def test_lower(self):
        for book in (self.BOOK, Book(PROGRAM, tight=True)):
            for words, lower in self.LOWERS:
                self.assertEqual(book.lower(symbol(words)), lower, words)
                self.assertIs(type(book.lower(symbol=symbol(words))), int)

    def test_kinds_of_six_within_one_another(self):
        def of_n(kind):
            return kind if kind in (">", "*") else "n" if isinstance(kind, str) else tuple([of_n(one) for one in kind])
        for sign in (">", "*"):
            six, five, seven = [of_n(deep_kind(many, sign)) for many in (6, 5, 7)]
            self.assertEqual(self.BOOK.lower(("out", six)), 0)
            for head in ("fun", "call", "pair", "part"):
                self.assertEqual(self.BOOK.lower((head, five, "n")), 2)
                self.assertEqual(self.BOOK.lower((head, "n", five)), 2)
                self.assertEqual(self.BOOK.lower((head, five, five)), 2)
                self.none((head, six, "n"))
                self.none((head, "n", six))
            self.none(("out", seven))

    def none(self, thing):
        for book in (self.BOOK, Book(PROGRAM, tight=True)):
            with self.assertRaises(NoSymbol):
                book.lower(thing)
            self.assertIsNone(book.piece(thing))
            self.assertEqual(book.saved(thing), {})
            for other in (("choose", 0), ("call", "n", "n"), ("drop", "n"), thing):
                self.assertIsNone(book.piece(thing, other))
                self.assertIsNone(book.piece(other, thing))
                self.assertEqual(book.saved(thing, other), {})

    def test_no_symbol(self):
        things = [
            ("out", "q"), ("out", "z"), ("out",), ("out", "n", "n"), ("out", None), ("out", ("n",)), ("out", (">", "n", "q")),
            ("out", ["*", "n", "n"]), ("fun", "n"), ("fun", "n", "q"), ("fun", "q", "n"), ("fun", "n", "n", "n"), ("fun", (">", "n", "n")),
            ("call", "n"), ("call", "n", 1), ("pair", "n", ("*", "n")), ("part", [], {}), ("make", "n"), ("make", "q"), ("make",),
            ("make", "z", 0), ("make", 0), ("make", ("z",)), ("make", ["z"]), ("make", {"z": 1}), ("choose", 6), ("choose", -1),
            ("choose", True), ("choose", False), ("choose", None), ("choose", "0"), ("choose", (0,)), ("choose", [0]), ("choose",),
            ("choose", 0, 0), ("choose", 10 ** 40 - 1), ("copy", "z"), ("copy", "q"), ("copy",), ("copy", "n", "n"), ("copy", ("n",)),
            ("drop", "f"), ("drop", []), ("drop",), ("def", "z"), ("def", "n"), ("def",), ("def", "f", "f"), ("def", 0), ("def", ["f"]),
            ["def", "f"], "def", ("Def", "f"), ("", "f"), (["def"], "f"), (0, "f"), (None, "f"), ({}, {}), ("in", "n"), ("fun", "n", True),
            ("out", "n", "n", "n"), ("make", "z", 0, 0), ("choose", 0, 0, 0), ("make", True), ("def", False), ((("def", "f"),),), {"def": "f"},
        ]
        for thing in things:
            self.none(thing)

    def test_of_anything(self):
        things = odd_things() + [(head, thing) for thing in odd_things() for head in ("out", "choose", "make", "def")]
        for thing in things + [("call", thing, "n") for thing in odd_things()]:
            if thing in (("choose", 0), ("choose", 1)) and type(thing[1]) is int:
                continue
            with self.assertRaises(NoSymbol):
                self.BOOK.lower(thing)
            self.assertIsNone(self.BOOK.piece(thing))
            self.assertIsNone(self.BOOK.piece(("make", "z"), thing))
            if thing is not None:
                self.assertIsNone(self.BOOK.piece(("def", "f"), thing))
            self.assertIsNone(self.BOOK.piece(thing, ("choose", 0)))
            self.assertEqual(self.BOOK.saved(thing, thing), {})

    def test_a_books_symbols(self):
        words = ["out (* n l)", "out n", "copy n", "copy b", "copy l", "copy w", "drop n", "drop b", "drop l", "drop w"]
        words += ["def " + f for f in "fghij"] + ["make " + c for c in "z s no yes nil cons only".split()]
        words += ["fun n b", "choose 0", "choose 1", "call n b"]
        words += ["part l n", "pair l n", "pair n l"]
        words += ["fun b (> n (> l (* l n)))", "fun n (> l (* l n))", "fun l (* l n)", "choose 2", "part n l"]
        words += ["fun (> n b) b", "choose 3", "choose 4", "choose 5"]
        for book in (self.BOOK, Book(PROGRAM, tight=True)):
            told = book.symbols()
            self.assertIs(type(told), tuple)
            self.assertEqual(sorted(map(repr, told)), sorted([repr(symbol(row)) for row in words]))

    def test_equal_programs_have_equal_ones(self):
        again = copy.deepcopy(PROGRAM)
        for tight in (False, True):
            self.assertEqual(Book(again, tight=tight).symbols(), self.BOOK.symbols())
            self.assertEqual(self.BOOK.symbols(), self.BOOK.symbols())

    def test_of_no_defs(self):
        book = Book(read_program("(= n (z))"))
        self.assertEqual(sorted(book.symbols()), [("copy", "n"), ("drop", "n"), ("make", "z")])

    def test_by_chance(self):
        for program in programs(chance(31), 40, wide=30, deep=9):
            rows = let_by(program)
            book = Book(program)
            told = book.symbols()
            self.assertEqual(len(told), len(set(told)))
            for one in told:
                self.assertIn(book.lower(one), range(10))
            wanted = {("out", kind) for _, kind, _ in program[1] if is_shown(kind)} | {("def", f) for f, _, _ in program[1]}
            for data, makers in program[0]:
                wanted |= {("copy", data), ("drop", data)} | {("make", maker) for maker, _ in makers}
            k = 0
            for f, _, term in program[1]:
                for at, one in enumerate(parts(term)):
                    kind = rows[f][at][0]
                    below = rows[f][at + 1][0] if at + 1 < len(rows[f]) else None
                    if one[0] == "?":
                        wanted.add(("choose", k))
                        _, names, inner = one[2][0]
                        held = [name for name in uses(inner) if name not in names]
                        self.assertEqual(book.held(k), tuple(held))
                        self.assertEqual(book.lower(("choose", k)), 1 + len(held))
                        k += 1
                    elif one[0] in "^&":
                        wanted.add(("fun" if one[0] == "^" else "pair", *kind[1:]))
                    elif one[0] in "!/":
                        wanted.add(("call" if one[0] == "!" else "part", *below[1:]))
            self.assertEqual(set(told), wanted)
            with self.assertRaises(NoSymbol):
                book.lower(("choose", k))


class Held(unittest.TestCase):

    def test_in_their_order(self):
        book = Book(PROGRAM)
        self.assertEqual([book.held(k) for k in range(6)], [(), (), ("e", "a"), (), (), ()])
        self.assertEqual(book.held(k=H), ("e", "a"))
        self.assertIs(type(book.held(0)), tuple)

    def test_choices_within_choices(self):
        one = "(? e (nil : (- d (# cons c (# nil)))) (cons h t : (- d (- h (# cons c t)))))"
        by = "(? d (no : (# yes)) (yes : (# no)))"
        other = f"(? {by} (no : (# cons a (# cons c e))) (yes : (- c (- e (# cons a (# nil))))))"
        term = f"(^ a n (^ c n (^ d b (^ e l (? a (z : {one}) (s a : {other}))))))"
        program = read_program(DATA + f"(@ f (> n (> n (> b (> l l)))) {term})")
        book = Book(program)
        self.assertEqual([book.held(k) for k in range(4)], [("e", "d", "c"), ("d", "c"), ("a", "c", "e"), ()])
        self.assertEqual([book.lower(("choose", k)) for k in range(4)], [4, 3, 4, 1])

    def test_numbered_through_the_defs(self):
        rows = [f"(@ {f} n (? (# {maker}) (z : (# z)) (s m : m)))".replace("(# s)", "(# s (# z))")
                for f, maker in (("d", "z"), ("a", "s"), ("c", "z"))]
        book = Book(read_program(DATA + "".join(rows)))
        self.assertEqual(book.lower(("choose", 2)), 1)
        with self.assertRaises(NoSymbol):
            book.lower(("choose", 3))
        program = read_program(DATA + "(@ d (> n (> n n)) (^ x n (^ y n (? x (z : y) (s m : (- m y))))))"
                               "(@ a (> b (> n (> l (* l n)))) (^ u b (^ v n (^ w l (? u (no : (& w v)) (yes : (& w v)))))))")
        self.assertEqual([Book(program).held(k) for k in (0, 1)], [("y",), ("w", "v")])
        self.assertEqual([Book((program[0], program[1][::-1])).held(k) for k in (0, 1)], [("w", "v"), ("y",)])

    def test_eight(self):
        names = "abcdefgh"
        term = "(# nil)"
        for name in names:
            term = f"(# cons {name} {term})"
        row = f"(? x (no : {term}) (yes : " + "".join([f"(- {name} " for name in names]) + "(# nil)" + "))))))))" + "))"
        for name in "fgh":
            row = f"(! (^ {name} n {row}) (# z))"
        for name in "ebacd":
            row = f"(! (^ {name} n {row}) (# z))"
        program = read_program(DATA + f"(@ f l (! (^ x b {row}) (# no)))")
        book = Book(program)
        self.assertEqual(book.held(0), tuple("hgfedcba"))
        self.assertEqual(book.lower(("choose", 0)), 9)
        scope = {name: (-2, at + 2) for at, name in enumerate("hgfedcba")}
        told = book.piece(("make", "yes"), ("choose", 0))
        self.assertEqual(loose(told), piece_of("; ".join(["drop n 0"] * 8 + ["make nil 0"]),
                         [((at, 0), scope[name]) for at, name in enumerate(names)] + [((8, 0), (-2, 1))]))


class Rules(unittest.TestCase):

    BOOK = Book(PROGRAM)

    def test_functions_and_pairs(self):
        through = piece_of("", [((-1, 1), (-2, 1)), ((-1, 2), (-2, 2))])
        for giver, taker in (("fun", "call"), ("pair", "part")):
            for a, b in (("n", "b"), ("l", "l"), ((">", "n", ("*", "b", "w")), "w"), ("w", ("*", "n", "n"))):
                self.assertEqual(loose(self.BOOK.piece((giver, a, b), (taker, a, b))), through)
                self.assertIsNone(self.BOOK.piece((taker, a, b), (giver, a, b)))
                if a != b:
                    self.assertIsNone(self.BOOK.piece((giver, a, b), (taker, b, a)))
                self.assertIsNone(self.BOOK.piece((giver, a, b), (taker, a, "b" if b != "b" else "n")))
                self.assertIsNone(self.BOOK.piece((giver, a, b)))
        self.assertIsNone(self.BOOK.piece(("fun", "n", "n"), ("part", "n", "n")))
        self.assertIsNone(self.BOOK.piece(("pair", "n", "n"), ("call", "n", "n")))
        self.assertIsNone(self.BOOK.piece(("fun", "q", "n"), ("call", "q", "n")))

    def test_copies(self):
        rows = [
            ("z", "n", "make z 0; make z 0", []),
            ("s", "n", "make s 1; make s 1; copy n 2", [((2, 0), (-1, 1)), ((2, 1), (0, 1)), ((2, 2), (1, 1))]),
            ("cons", "l", "make cons 2; make cons 2; copy n 2; copy l 2", [
                ((2, 0), (-1, 1)), ((2, 1), (0, 1)), ((2, 2), (1, 1)), ((3, 0), (-1, 2)), ((3, 1), (0, 2)), ((3, 2), (1, 2))]),
            ("only", "w", "make only 3; make only 3; copy n 2; copy b 2; copy l 2", [
                ((2 + at, place), end) for at in range(3) for place, end in enumerate([(-1, at + 1), (0, at + 1), (1, at + 1)])]),
        ]
        for maker, data, symbols, ties in rows:
            told = self.BOOK.piece(("make", maker), ("copy", data))
            self.assertEqual(loose(told), piece_of(symbols, ties + [((0, 0), (-2, 1)), ((1, 0), (-2, 2))]))
            self.assertIsNone(self.BOOK.piece(("copy", data), ("make", maker)))
            for other in "nblw":
                if other != data:
                    self.assertIsNone(self.BOOK.piece(("make", maker), ("copy", other)))

    def test_drops(self):
        rows = [("z", "n", "", []), ("s", "n", "drop n 0", [((0, 0), (-1, 1))]),
                ("cons", "l", "drop n 0; drop l 0", [((0, 0), (-1, 1)), ((1, 0), (-1, 2))]),
                ("only", "w", "drop n 0; drop b 0; drop l 0", [((at, 0), (-1, at + 1)) for at in range(3)])]
        for maker, data, symbols, ties in rows:
            self.assertEqual(loose(self.BOOK.piece(symbol=("make", maker), other=("drop", data))), piece_of(symbols, ties))
            self.assertIsNone(self.BOOK.piece(("drop", data), ("make", maker)))
            for other in "nblw":
                if other != data:
                    self.assertIsNone(self.BOOK.piece(("make", maker), ("drop", other)))

    def test_choices(self):
        rows = [
            (F_OUTER, "z", "make yes 0", [((0, 0), (-2, 1))]),
            (F_OUTER, "s", "choose 1 1; call n b 2; def f 0", [((0, 1), (-2, 1)), ((0, 0), (1, 2)), ((1, 0), (2, 0)), ((1, 1), (-1, 1))]),
            (F_INNER, "no", "make yes 0", [((0, 0), (-2, 1))]), (F_INNER, "yes", "make no 0", [((0, 0), (-2, 1))]),
            (H, "no", "pair l n 2", [((0, 0), (-2, 1)), ((0, 1), (-2, 2)), ((0, 2), (-2, 3))]),
            (H, "yes", "part n l 2; pair n l 2; pair l n 2", [
                ((0, 0), (1, 0)), ((1, 1), (-2, 3)), ((1, 2), (-2, 2)), ((2, 0), (-2, 1)), ((2, 1), (0, 2)), ((2, 2), (0, 1))]),
            (J_OUTER, "s", "choose 5 1", [((0, 0), (-1, 1)), ((0, 1), (-2, 1))]),
            # A case that is a name alone: the wire itself.
            (J_CASE, "s", "", [((-1, 1), (-2, 1))]),
        ]
        for k, maker, symbols, ties in rows:
            told = self.BOOK.piece(("make", maker), ("choose", k))
            self.assertEqual(loose(told), piece_of(symbols, ties), (k, maker))
            self.assertIsNone(self.BOOK.piece(("choose", k), ("make", maker)))
        for maker in "z s no yes nil cons only".split():
            for k, data in enumerate("nbbnbn"):
                there = maker in {"n": ("z", "s"), "b": ("no", "yes")}[data]
                self.assertEqual(self.BOOK.piece(("make", maker), ("choose", k)) is not None, there)

    def test_a_held_name_that_is_the_wire_itself(self):
        book = Book(read_program(DATA + "(@ f (> n (> b n)) (^ a n (^ c b (? c (no : a) (yes : (# s a))))))"))
        self.assertEqual(loose(book.piece(("make", "no"), ("choose", 0))), piece_of("", [((-2, 1), (-2, 2))]))
        self.assertEqual(loose(book.piece(("make", "yes"), ("choose", 0))), piece_of("make s 1", [((-2, 1), (0, 0)), ((-2, 2), (0, 1))]))

    def test_no_other_two(self):
        symbols = [symbol(words) for words, _ in Symbols.LOWERS]
        good = 0
        for one in symbols:
            self.assertEqual(self.BOOK.piece(one) is not None, one[0] == "def")
            self.assertEqual(self.BOOK.piece(one, None) is not None, one[0] == "def")
            for other in symbols:
                told = self.BOOK.piece(one, other)
                fits = (one[0], other[0]) in (("fun", "call"), ("pair", "part"), ("make", "choose"), ("make", "copy"), ("make", "drop"))
                if not fits:
                    self.assertIsNone(told, (one, other))
                good += told is not None
                self.assertEqual(self.BOOK.saved(one, other), {})
        self.assertGreater(good, 12)


class PiecesOfTerms(unittest.TestCase):

    def check(self, kind, term, symbols, ties):
        more = "(@ g n (# z)) (@ h (> n n) (^ x n x)) (@ p (* n b) (& (# z) (# no)))"
        book = Book(read_program(DATA + f"(@ f {kind} {term})" + more))
        told = book.piece(("def", "f"))
        self.assertEqual(loose(told), piece_of(symbols, ties), term)
        self.assertEqual(book.piece(("def", "f")), told)
        self.assertEqual(book.piece(symbol=("def", "f"), other=None), told)
        self.assertIs(type(told), tuple)
        self.assertTrue(all(type(row) is tuple and len(row) == 2 for part in told for row in part))
        self.assertIs(type(told[0]), tuple)
        self.assertIs(type(told[1]), tuple)

    def test_each_sign(self):
        top = (-1, 0)
        self.check("n", "@g", "def g 0", [((0, 0), top)])
        self.check("(> n n)", "(^ x n x)", "fun n n 2", [((0, 0), top), ((0, 1), (0, 2))])
        self.check("(> n n)", "(^ x n (# s x))", "fun n n 2; make s 1", [((0, 0), top), ((0, 2), (1, 0)), ((0, 1), (1, 1))])
        self.check("n", "(! @h @g)", "call n n 2; def h 0; def g 0", [((0, 0), (1, 0)), ((0, 1), (2, 0)), ((0, 2), top)])
        self.check("(* n n)", "(& @g (# z))", "pair n n 2; def g 0; make z 0", [((0, 0), top), ((0, 1), (1, 0)), ((0, 2), (2, 0))])
        self.check("(* b n)", "(/ @p x y (& y x))", "part n b 2; def p 0; pair b n 2",
                   [((0, 0), (1, 0)), ((2, 0), top), ((2, 1), (0, 2)), ((2, 2), (0, 1))])
        self.check("l", "(# cons @g (# nil))", "make cons 2; def g 0; make nil 0", [((0, 0), top), ((0, 1), (1, 0)), ((0, 2), (2, 0))])
        self.check("n", "(# z)", "make z 0", [((0, 0), top)])
        self.check("n", "(? @g (z : (# z)) (s m : m))", "choose 0 1; def g 0", [((0, 0), (1, 0)), ((0, 1), top)])
        self.check("(* n n)", "(+ @g x y (& y x))", "copy n 2; def g 0; pair n n 2",
                   [((0, 0), (1, 0)), ((2, 0), top), ((2, 1), (0, 2)), ((2, 2), (0, 1))])
        self.check("b", "(- @g (# no))", "drop n 0; def g 0; make no 0", [((0, 0), (1, 0)), ((2, 0), top)])

    def test_names_are_wires(self):
        top = (-1, 0)
        self.check("(> n n)", "(^ x n (+ x y v (- y v)))", "fun n n 2; copy n 2; drop n 0",
                   [((0, 0), top), ((0, 1), (1, 0)), ((1, 1), (2, 0)), ((1, 2), (0, 2))])
        self.check("(> (* n b) (* n b))", "(^ x (* n b) (/ x x y (& x y)))", "fun (* n b) (* n b) 2; part n b 2; pair n b 2",
                   [((0, 0), top), ((0, 1), (1, 0)), ((1, 1), (2, 1)), ((1, 2), (2, 2)), ((2, 0), (0, 2))])
        self.check("(> (> n n) (> n n))", "(^ u (> n n) (^ x n (! u x)))", "fun (> n n) (> n n) 2; fun n n 2; call n n 2",
                   [((0, 0), top), ((0, 2), (1, 0)), ((0, 1), (2, 0)), ((1, 1), (2, 1)), ((1, 2), (2, 2))])

    def test_a_choice_holds_names_and_hides_its_cases(self):
        top = (-1, 0)
        self.check("(> b (> n (> n (* n n))))", "(^ c b (^ x n (^ y n (? c (no : (& y x)) (yes : (& (# s x) y))))))",
                   "fun b (> n (> n (* n n))) 2; fun n (> n (* n n)) 2; fun n (* n n) 2; choose 0 3",
                   [((0, 0), top), ((0, 2), (1, 0)), ((1, 2), (2, 0)), ((2, 2), (3, 1)), ((3, 0), (0, 1)), ((3, 2), (2, 1)), ((3, 3), (1, 1))])

    def test_that_of_a_def_in_another_book(self):
        for program in programs(chance(32), 30, wide=30, deep=9):
            book = Book(program)
            names = {"nat": "bool", "bool": "nat", "z": "yes", "yes": "z", "a": "h", "h": "a", "n": "m", "m": "n"}
            other = Book(exchanged(program, names))
            self.assertEqual(book.symbols(), Book(program).symbols())
            for f, _, _ in program[1]:
                one, two = book.piece(("def", f)), other.piece(("def", names.get(f, f)))
                self.assertEqual(two[1], one[1])
                self.assertEqual([lower for _, lower in two[0]], [lower for _, lower in one[0]])


def all_pieces(book, program):
    """All pieces of a book but those of functions and pairs: the symbols and the piece."""
    told = []
    takers = [("choose", k) for k in range(len([1 for one in book.symbols() if one[0] == "choose"]))]
    for f, _, _ in program[1]:
        told.append(((("def", f),), book.piece(("def", f))))
    for data, makers in program[0]:
        for maker, _ in makers:
            for taker in takers + [("copy", data), ("drop", data)]:
                piece = book.piece(("make", maker), taker)
                if piece is not None:
                    told.append(((("make", maker), taker), piece))
    return told


class AllPieces(unittest.TestCase):

    def test_each_end_in_just_one_tie_of_one_kind(self):
        for program in programs(chance(33), 40, wide=40, deep=10):
            kinds = choice_kinds(program, let_by(program))
            for book in (Book(program), Book(program, tight=True)):
                for key, (symbols, ties) in all_pieces(book, program):
                    ends = [end for tie in ties for end in tie]
                    outer = [(-1 - at, place) for at, one in enumerate(key)
                             for place in ([0] if len(key) == 1 else range(1, book.lower(one) + 1))]
                    inner = [(at, place) for at, (_, lower) in enumerate(symbols) for place in range(lower + 1)]
                    self.assertEqual(sorted(ends), sorted(outer + inner))
                    for one, lower in symbols:
                        self.assertEqual(book.lower(one), lower)

                    def kind_of(end):
                        if end[0] >= 0:
                            return port_kind(program, kinds, symbols[end[0]][0], end[1])
                        # What a port is tied to takes what the port gives, and the other way about.
                        way, kind = port_kind(program, kinds, key[-1 - end[0]], end[1])
                        return ({"+": "-", "-": "+"}[way], kind)

                    for one, other in ties:
                        ways = [kind_of(one), kind_of(other)]
                        self.assertEqual(ways[0][1], ways[1][1], (key, one, other))
                        self.assertEqual(sorted([ways[0][0], ways[1][0]]), ["+", "-"])

    def test_the_same_each_time(self):
        for program in programs(chance(34), 20, wide=40, deep=10):
            for tight in (False, True):
                book, again = Book(program, tight=tight), Book(copy.deepcopy(program), tight=tight)
                for _ in range(2):
                    self.assertEqual(all_pieces(book, program), all_pieces(again, program))

    def test_agents_in_the_order_of_the_parts(self):
        for program in programs(chance(35), 30, wide=40, deep=10):
            book = Book(program)
            for f, _, term in program[1]:
                signs = {"^": "fun", "!": "call", "&": "pair", "/": "part", "#": "make", "?": "choose", "+": "copy", "-": "drop", "@": "def"}
                rows = []

                def walk(one):
                    if isinstance(one, str):
                        return
                    rows.append(signs[one[0]])
                    inner = {"^": [3], "!": [1, 2], "&": [1, 2], "/": [1, 4], "?": [1], "+": [1, 4], "-": [1, 2], "@": []}
                    for below in one[2] if one[0] == "#" else [one[at] for at in inner[one[0]]]:
                        walk(below)

                walk(term)
                self.assertEqual([one[0] for one, _ in book.piece(("def", f))[0]], rows)


class Values(unittest.TestCase):

    def test_program_and_tight(self):
        self.assertEqual(Book(PROGRAM).program, PROGRAM)
        self.assertIs(Book(PROGRAM).tight, False)
        self.assertIs(Book(PROGRAM, tight=True).tight, True)
        self.assertIs(Book(program=PROGRAM, tight=False).tight, False)
        with self.assertRaises(TypeError):
            Book(PROGRAM, True)

    def test_no_kind(self):
        for body, fault in (("(^ x n (# z))", ("f", 0, "unused")), ("(# s (# yes))", ("f", 0, "kind")), ("@g", ("f", 0, "def"))):
            for tight in (False, True):
                with self.assertRaises(NoKind) as caught:
                    Book(read_program(DATA + f"(@ f n {body})"), tight=tight)
                self.assertEqual((caught.exception.name, caught.exception.at, caught.exception.why), fault)

    def test_nothing_is_changed(self):
        kept = copy.deepcopy(NATS)
        book = Book(NATS, tight=True)
        all_pieces(book, NATS)
        self.assertEqual(NATS, kept)


class Tight(unittest.TestCase):

    def check(self, kind, term, symbols, ties, saved, more=""):
        program = read_program(DATA + f"(@ f {kind} {term})" + more)
        book = Book(program, tight=True)
        told, wanted = book.piece(("def", "f")), piece_of(symbols, ties)
        self.assertIsNotNone(alike(net_of(told), net_of(wanted[0:1] + ([tuple(tie) for tie in wanted[1]],))), (term, told))
        self.assertEqual(book.saved(("def", "f")), saved)
        self.assertEqual(book.saved(symbol=("def", "f"), other=None), saved)
        plain = Book(program)
        self.assertEqual(plain.saved(("def", "f")), {})

    def test_what_is_done(self):
        top = (-1, 0)
        self.check("n", "(! (^ x n (# s x)) (# z))", "make s 1; make z 0", [((0, 0), top), ((0, 1), (1, 0))], {("call",): 1})
        self.check("(* b n)", "(/ (& (# z) (# no)) x y (& y x))", "pair b n 2; make no 0; make z 0",
                   [((0, 0), top), ((0, 1), (1, 0)), ((0, 2), (2, 0))], {("part",): 1})
        self.check("n", "(- (# cons (# s (# z)) (# nil)) (# z))", "make z 0", [((0, 0), top)],
                   {("drop", "cons"): 1, ("drop", "s"): 1, ("drop", "z"): 1, ("drop", "nil"): 1})
        self.check("n", "(? (# s (# s (# z))) (z : (# z)) (s m : (? m (z : (# z)) (s k : k))))", "make z 0", [((0, 0), top)],
                   {("choice", "s"): 2})
        self.check("n", "(! (^ x n (? (# yes) (no : x) (yes : (# s x)))) (# z))", "make s 1; make z 0", [((0, 0), top), ((0, 1), (1, 0))],
                   {("call",): 1, ("choice", "yes"): 1})
        self.check("(> n n)", "(! (^ g (> n n) g) (^ x n x))", "fun n n 2", [((0, 0), top), ((0, 1), (0, 2))], {("call",): 1})

    def test_copies_are_not(self):
        top = (-1, 0)
        self.check("(* n n)", "(+ (# z) x y (& x y))", "copy n 2; make z 0; pair n n 2",
                   [((0, 0), (1, 0)), ((2, 0), top), ((2, 1), (0, 1)), ((2, 2), (0, 2))], {})
        self.check("n", "(! (^ a n (+ a x y (- x y))) (# z))", "copy n 2; drop n 0; make z 0",
                   [((0, 0), (2, 0)), ((1, 0), (0, 1)), ((0, 2), top)], {("call",): 1})

    def test_defs_are_not(self):
        top = (-1, 0)
        more = "(@ g n (# z)) (@ h (> n n) (^ x n x))"
        self.check("n", "(! @h @g)", "call n n 2; def h 0; def g 0", [((0, 0), (1, 0)), ((0, 1), (2, 0)), ((0, 2), top)], {}, more)
        self.check("n", "(- @g @g)", "drop n 0; def g 0; def g 0", [((0, 0), (1, 0)), ((2, 0), top)], {}, more)
        self.check("n", "(? @g (z : (# z)) (s m : m))", "choose 0 1; def g 0", [((0, 0), (1, 0)), ((0, 1), top)], {}, more)

    def test_the_pieces_of_cases(self):
        inner = "(/ (& m (# no)) x y (? y (no : (# s x)) (yes : x)))"
        program = read_program(DATA + f"(@ f (> n n) (^ a n (? a (z : (! (^ x n (# s x)) (# z))) (s m : {inner}))))")
        book, plain = Book(program, tight=True), Book(program)
        self.assertEqual(book.saved(("make", "z"), ("choose", 0)), {("call",): 1})
        self.assertEqual(book.saved(symbol=("make", "s"), other=("choose", 0)), {("part",): 1, ("choice", "no"): 1})
        self.assertEqual(book.saved(("make", "no"), ("choose", 1)), {})
        self.assertEqual(book.saved(("choose", 0), ("make", "z")), {})
        self.assertEqual(book.saved(("def", "f")), {})
        told = book.piece(("make", "s"), ("choose", 0))
        self.assertEqual(loose(told), piece_of("make s 1", [((0, 0), (-2, 1)), ((0, 1), (-1, 1))]))
        self.assertEqual(len(plain.piece(("make", "s"), ("choose", 0))[0]), 4)
        self.assertIsNone(book.piece(("choose", 0), ("make", "s")))

    def test_pieces_of_other_rules_stay(self):
        book, plain = Book(PROGRAM, tight=True), Book(PROGRAM)
        for giver, taker in ((("fun", "n", "w"), ("call", "n", "w")), (("pair", "n", "w"), ("part", "n", "w")),
                             (("make", "cons"), ("copy", "l")), (("make", "only"), ("drop", "w")), (("make", "z"), ("copy", "n"))):
            self.assertEqual(loose(book.piece(giver, taker)), loose(plain.piece(giver, taker)))
            self.assertEqual(book.saved(giver, taker), {})

    def test_dicts_are_new(self):
        book = Book(read_program(DATA + "(@ f n (! (^ x n x) (# z)))"), tight=True)
        book.saved(("def", "f"))[("call",)] = 7
        book.saved(("def", "f")).clear()
        self.assertEqual(book.saved(("def", "f")), {("call",): 1})
        self.assertIs(type(book.saved(("def", "f"))), dict)
        self.assertIs(type(book.saved(None)), dict)

    def test_beside_another_way(self):
        luck = chance(36)
        spared = 0
        for program in programs(luck, 60, wide=50, deep=10):
            plain, tight = Book(program), Book(program, tight=True)
            rows = dict(all_pieces(tight, program))
            self.assertEqual(set(rows), set(dict(all_pieces(plain, program))))
            for key, piece in all_pieces(plain, program):
                net = OtherNet(net_of(piece))
                counts = {}
                while True:
                    ends = net.ends()
                    ways = []
                    for n, (one, _) in net.agents.items():
                        end = ends.get((n, 0))
                        if end is not None and end[1] == 0 and one[0] != "end":
                            other = net.agents[end[0]][0]
                            inner = plain.piece(one, other)
                            if inner is not None and other[0] != "copy":
                                ways.append((n, end[0], inner))
                    if not ways:
                        break
                    first, second, inner = luck.choice(ways)
                    one, other = net.agents[first][0], net.agents[second][0]
                    name = {"call": ("call",), "part": ("part",), "choose": ("choice", one[1]), "drop": ("drop", one[1])}[other[0]]
                    counts = merged(counts, {name: 1})
                    net.lay((first, second), inner)
                self.assertEqual(tight.saved(*key), counts)
                spared += len(counts)
                wanted = Net()
                numbers = {n: wanted.put(one, lower) for n, (one, lower) in sorted(net.agents.items())}
                for one, other, _ in net.wires:
                    wanted.tie((numbers[one[0]], one[1]), (numbers[other[0]], other[1]))
                told = net_of(rows[key])
                self.assertIsNotNone(alike(told, wanted))
                for move in moves(told):
                    if len(move) == 2:
                        pair = [told.symbol_of(n) for n in move]
                        for one, other in (pair, pair[::-1]):
                            self.assertTrue(plain.piece(one, other) is None or other[0] == "copy")
        self.assertGreater(spared, 100)

    def test_a_great_program_is_told_soon(self):
        # Each case's choice is done ahead in all pieces around it.
        names = "abcdefghijklmnop"
        inner = "(# z)"
        for _ in range(13):
            inner = f"(? (# s (# s (# z))) (z : (# z)) (s m : (- m {inner})))"
        program = read_program(DATA + "".join([f"(@ {name} n {inner})" for name in names]))
        book = Book(program, tight=True)
        for name in names:
            self.assertEqual(book.saved(("def", name)), {("choice", "s"): 13, ("drop", "s"): 13, ("drop", "z"): 13})
            self.assertEqual(loose(book.piece(("def", name))), piece_of("make z 0", [((0, 0), (-1, 0))]))


if __name__ == "__main__":
    unittest.main()
