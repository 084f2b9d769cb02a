"""Points 2 and 7: oncewire.texts."""

import unittest

from oncewire.errors import NoText, OnceError
from oncewire.shapes import is_kind, is_program, is_term
from oncewire.texts import kind_text, program_text, read_kind, read_program, read_term, term_text

from samples import ALL_SIGNS, NATS, chance, deep, deep_kind, wide
from signs_oracle import first_bad

KINDS = [("d", "d"), ("(> a b)", (">", "a", "b")), ("(* a b)", ("*", "a", "b")),
         ("(> (* a b) (> c d))", (">", ("*", "a", "b"), (">", "c", "d")))]

TERMS = [
    ("x", "x"), ("abcdefgh", "abcdefgh"), ("@f", ("@", "f")), ("(^ x (> a b) t)", ("^", "x", (">", "a", "b"), "t")),
    ("(! t u)", ("!", "t", "u")), ("(& t u)", ("&", "t", "u")), ("(/ t x y u)", ("/", "t", "x", "y", "u")),
    ("(# c)", ("#", "c", ())), ("(# c t)", ("#", "c", ("t",))), ("(# c t @u (# e) w)",
    ("#", "c", ("t", ("@", "u"), ("#", "e", ()), "w"))), ("(? t (c : u))", ("?", "t", (("c", (), "u"),))),
    ("(? t (c x y : u) (e : @w))", ("?", "t", (("c", ("x", "y"), "u"), ("e", (), ("@", "w"))))),
    ("(+ t x y u)", ("+", "t", "x", "y", "u")), ("(- t u)", ("-", "t", "u")),
    ("(! (^ x d x) (- @f (& a b)))", ("!", ("^", "x", "d", "x"), ("-", ("@", "f"), ("&", "a", "b")))),
]

PROGRAMS = [
    ("(= d (c))", ((("d", (("c", ()),)),), ())),
    ("(= d (c) (e d d))\n(= g (h d))", ((("d", (("c", ()), ("e", ("d", "d")))), ("g", (("h", ("d",)),))), ())),
    ("(= d (c))\n(@ f (> d d) (^ x d x))\n(@ g d @f)",
     ((("d", (("c", ()),)),), (("f", (">", "d", "d"), ("^", "x", "d", "x")), ("g", "d", ("@", "f"))))),
]


def spread(text, blanks):
    """A text with blanks between all its signs, names left whole."""
    told = blanks
    for at, sign in enumerate(text):
        told += sign
        if not (sign.isalpha() and text[at + 1:at + 2].isalpha()):
            told += blanks
    return told


def packed(text):
    """A text without the blanks that aren't needed."""
    told = ""
    for at, sign in enumerate(text):
        if sign not in " \n" or (text[at - 1].isalpha() and text[at + 1].isalpha()):
            told += sign
    return told


class Written(unittest.TestCase):

    def test_kinds(self):
        for text, kind in KINDS:
            self.assertEqual(kind_text(kind), text)
        self.assertEqual(kind_text(kind="d"), "d")

    def test_terms(self):
        for text, term in TERMS:
            self.assertEqual(term_text(term), text)
        self.assertEqual(term_text(term=ALL_SIGNS), "(^ f (> a b) (/ (! f @g) x y (+ x c e (- y (? c"
                         " (m p q : (& p q)) (o : (# k e z)))))))")

    def test_programs(self):
        for text, program in PROGRAMS:
            self.assertEqual(program_text(program), text)
        self.assertEqual(program_text(program=PROGRAMS[0][1]), "(= d (c))")

    def test_worths_of_many_parts(self):
        worth, text = ("#", "z", ()), "(# z)"
        for _ in range(14):
            worth, text = ("&", worth, worth), "(& " + text + " " + text + ")"
        self.assertEqual(term_text(worth), text)
        worth, text = ("#", "z", ()), "(# z)"
        for _ in range(59):
            worth, text = ("#", "s", (("#", "e", ()), worth)), "(# s (# e) " + text + ")"
        self.assertEqual(term_text(worth), text)
        self.assertIs(is_term(worth), False)


class Read(unittest.TestCase):

    def test_as_written(self):
        for rows, read in ((KINDS, read_kind), (TERMS, read_term), (PROGRAMS, read_program)):
            for text, thing in rows:
                self.assertEqual(read(text), thing)
                self.assertEqual(read(text=text), thing)

    def test_with_more_blanks(self):
        for rows, read in ((KINDS, read_kind), (TERMS, read_term), (PROGRAMS, read_program)):
            for text, thing in rows:
                for blanks in (" ", "\n", "  ", " \n\n "):
                    self.assertEqual(read(spread(text, blanks)), thing)

    def test_without_blanks(self):
        for rows, read in ((KINDS, read_kind), (TERMS, read_term), (PROGRAMS, read_program)):
            for text, thing in rows:
                self.assertEqual(read(packed(text)), thing)
        self.assertEqual(read_term("(?t(c x:u)(e:(#k@f@g(#z)y)))"), read_term("(? t (c x : u) (e : (# k @f @g (# z) y)))"))
        self.assertEqual(read_term("@ \n f"), ("@", "f"))

    def test_back_and_forth(self):
        self.assertEqual(read_program(program_text(NATS)), NATS)
        self.assertEqual(read_term(term_text(ALL_SIGNS)), ALL_SIGNS)
        self.assertEqual(read_kind(kind_text(deep_kind(6))), deep_kind(6))
        self.assertEqual(read_term(term_text(deep("&", 30))), deep("&", 30))
        self.assertEqual(read_term(term_text(wide(199))), wide(199))


class Refused(unittest.TestCase):

    def check(self, read, rows):
        for text, at in rows:
            with self.assertRaises(NoText) as caught:
                read(text)
            self.assertEqual(caught.exception.at, at, repr(text))
            self.assertIs(type(caught.exception.at), int)
            self.assertIsInstance(caught.exception, OnceError)

    def test_kinds(self):
        self.check(read_kind, [
            ("", 0), (" \n", 2), (")", 0), ("@f", 0), ("(", 1), ("()", 1), ("(d", 1), ("(^", 1), ("( + a b)", 2),
            ("(>", 2), ("(> a", 4), ("(> a )", 5), ("(> a b", 6), ("(> a b c)", 7), ("d d", 2), ("d)", 1),
            ("(> a b))", 7), ("(* a b) c", 8), ("D", 0), ("aB", 1), ("a\tb", 1), ("\ta", 0), ("d1", 1), ("a_", 1),
            ("\u00e9", 0), ("a\r\n", 1), ("(>a b)x", 6), ("(>ab)", 4), ("(> a @", 5), ("(:", 1),
        ])

    def test_lengths_of_names(self):
        self.check(read_kind, [("abcdefghi", 8), ("abcdefghijk", 8), ("(> abcdefghi b)", 11), ("(* a  abcdefghix", 14)])
        self.check(read_term, [("@abcdefghi", 9), ("(^ abcdefghi d x)", 11), ("(? x (abcdefghi", 14)])
        self.check(read_program, [("(= abcdefghi (c))", 11), ("(= d (abcdefghi))", 14), ("(= d (c))(@abcdefghi", 19)])

    def test_terms(self):
        self.check(read_term, [
            ("", 0), ("\n", 1), ("(", 1), ("()", 1), ("(@", 1), ("(@ f)", 1), ("(=", 1), ("(x", 1), ("((", 1),
            ("@", 1), ("@ ", 2), ("@(", 1), ("@@f", 1), ("x y", 2), ("x)", 1), (":", 0), ("^", 0),
            ("(^", 2), ("(^ (", 3), ("(^ x", 4), ("(^ x (^", 6), ("(^ x @", 5), ("(^ x d", 6), ("(^ x d )", 7),
            ("(^ x d t u)", 9), ("(! t", 4), ("(! t)", 4), ("(! t u", 6), ("(! t u w)", 7), ("(& )", 3),
            ("(/ t x", 6), ("(/ t x y)", 8), ("(/ t @", 5), ("(/ t (", 5), ("(/ t x (! a b) u)", 7),
            ("(/ t x y u v)", 11), ("(#", 2), ("(# )", 3), ("(# @c)", 3), ("(# c", 4), ("(# c :", 5), ("(# c t", 6),
            ("(?", 2), ("(? t", 4), ("(? t)", 4), ("(? t u)", 5), ("(? t (", 6), ("(? t ()", 6), ("(? t (:", 6),
            ("(? t (c", 7), ("(? t (c)", 7), ("(? t (c x @", 10), ("(? t (c x :", 11), ("(? t (c x : )", 12),
            ("(? t (c x : u", 13), ("(? t (c x : u w", 14), ("(? t (c x : u)", 14), ("(? t (c x : u) w", 15),
            ("(? t (c x : : u))", 12), ("(+ t x", 6), ("(+ t x y", 8), ("(- t u w)", 7), ("(% t u)", 1), ("(! x Y)", 5),
        ])

    def test_programs(self):
        self.check(read_program, [
            ("", 0), ("  \n ", 4), ("d", 0), ("=", 0), ("(", 1), ("(@", 1), ("(@ f d x)", 1), ("(=", 2), ("(= (", 3),
            ("(= d", 4), ("(= d)", 4), ("(= d c", 5), ("(= d ()", 6), ("(= d (c", 7), ("(= d (c :", 8), ("(= d (c d)", 10),
            ("(= d (c (", 8), ("(= d (c))(", 10), ("(= d (c)) x", 10), ("(= d (c)))", 9), ("(= d (c)) (!", 11),
            ("(= d (c)) (@ f", 14), ("(= d (c)) (@ f d", 16), ("(= d (c)) (@ f @d", 15), ("(= d (c)) (@ f d x", 18),
            ("(= d (c)) (@ f d x y)", 19), ("(= d (c)) (@ f d x) (=", 21), ("(= d (c)) (@ f d x) (= e (g))", 21),
            ("(= d (c))\t", 9), ("(= d (c))@f", 9),
        ])

    def test_kinds_by_signs_alone(self):
        for many in (7, 8, 20, 40):
            text = kind_text(deep_kind(many))
            self.check(read_kind, [(text, len(text)), (text + "  ", len(text) + 2)])
            self.check(read_term, [(f"(^ x {text} x)", len(text) + 8)])

    def test_terms_by_signs_alone(self):
        texts = [
            "(/ t x x x)", "(+ t x x x)", "(? t (c x x : x))", "(? t (c x y z x : x))", "(? t (c a b e f g : x))",
            "(# c a b e f g)", "(? t" + " (c : u)" * 7 + ")", "(? t" + " (c : u)" * 500 + ")", term_text(deep("!", 31)),
            term_text(deep("-", 41)), term_text(wide(201)), term_text(wide(2001)), "(# c" + " x" * 900 + ")",
            "(& (/ t x x x) y) \n ",
        ]
        self.check(read_term, [(text, len(text)) for text in texts])

    def test_programs_by_signs_alone(self):
        texts = [
            "(= d (c e))", "(= d (c) (c))", "(= d (c)) (= d (e))", "(= d (c)) (= e (c))", "(= d (c d d d d d))",
            "(= d (c) (e) (f) (g) (h) (i) (j))", "(= d (c))" + "(@ f d x)" * 2, "(= d (c)) (@ f d (+ t x x x))",
            " ".join([f"(= d{x} (c{x}))" for x in "abcdefg"]), "(= d (c))" + "".join([f"(@ {x} d x)" for x in
            "abcdefghijklmnopq"]), "(= d (c)) (@ f " + kind_text(deep_kind(7)) + " x)",
        ]
        self.check(read_program, [(text, len(text)) for text in texts])
        for text in texts:
            self.check(read_program, [(text + " Z", len(text) + 1)])

    def test_an_early_sign_goes_ahead_of_numbers(self):
        self.check(read_term, [("(& (/ t x x x) )", 15), ("(# c a b e f g", 14), ("(# c a b e f g :", 15)])


class ManySigns(unittest.TestCase):

    def test_forty_brackets(self):
        for open_ones in (29, 30, 40):
            for head in ("(! x ", "(# c ", "(- x "):
                text = head * open_ones + "x" + ")" * open_ones
                if open_ones < 30:
                    self.assertEqual(term_text(read_term(text)), text)
                else:
                    self.assertEqual(self.bad(read_term, text), len(text))
                self.assertEqual(self.bad(read_term, text[:-1]), len(text) - 1)
                self.assertEqual(self.bad(read_term, text + ")"), len(text))
        text = "(? t (c : " * 20 + "x" + "))" * 20
        self.assertEqual(read_term(text)[2][0][:2], ("c", ()))
        self.assertEqual(self.bad(read_term, text.replace("x", "x y")), 202)

    def test_twenty_thousand_signs(self):
        blanks = " \n" * 9990
        self.assertEqual(read_term("(! x" + blanks + "y)"), ("!", "x", "y"))
        self.assertEqual(self.bad(read_term, blanks), len(blanks))
        text = "(? t" + "(c x y : (# e x y))" * 1050 + ")"
        self.assertEqual(self.bad(read_term, text), len(text))
        self.assertEqual(self.bad(read_term, text[:-1] + "?"), len(text) - 1)
        self.assertEqual(self.bad(read_kind, "a" * 20000), 8)
        text = "(= d (c))" * 2200
        self.assertEqual(self.bad(read_program, text), len(text))

    def bad(self, read, text):
        with self.assertRaises(NoText) as caught:
            read(text)
        return caught.exception.at


class BesideTheOtherWay(unittest.TestCase):
    """Texts changed by chance: what is told is what the other way to find it tells."""

    def check(self, text, read, start, holds):
        at, whole = first_bad(text, start)
        try:
            thing = read(text)
        except NoText as fault:
            if at is None:
                self.assertEqual(fault.at, len(text), repr(text))
            else:
                self.assertEqual(fault.at, at, repr(text))
            return
        self.assertIsNone(at, repr(text))
        self.assertTrue(whole, repr(text))
        self.assertTrue(holds(thing))

    def changed(self, text, luck):
        for _ in range(luck.randrange(4)):
            at = luck.randrange(len(text) + 1)
            wide_one = luck.randrange(3)
            sign = luck.choice("()()  \n@^!&/#?+-=:>*abcdefghX1")
            text = text[:at] + sign * luck.randrange(2) + text[at + wide_one:]
        return text[:luck.randrange(len(text) + 1)] if luck.random() < 0.2 else text

    def test_kinds(self):
        luck = chance(1)
        for _ in range(3000):
            self.check(self.changed(luck.choice(KINDS)[0], luck), read_kind, "K", is_kind)

    def test_terms(self):
        luck = chance(2)
        rows = [text for text, _ in TERMS] + [term_text(ALL_SIGNS)] + [term_text(term) for _, _, term in NATS[1]]
        for _ in range(6000):
            self.check(self.changed(luck.choice(rows), luck), read_term, "T", is_term)

    def test_programs(self):
        luck = chance(3)
        rows = [text for text, _ in PROGRAMS] + [program_text((NATS[0], NATS[1][:2]))]
        for _ in range(4000):
            self.check(self.changed(luck.choice(rows), luck), read_program, "P", is_program)

    def test_every_beginning(self):
        text = program_text(NATS)
        for end in range(len(text)):
            self.check(text[:end], read_program, "P", is_program)


if __name__ == "__main__":
    unittest.main()
