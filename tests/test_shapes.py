"""Points 2, 4, 5 and 6: oncewire.shapes."""

import copy
import unittest

from oncewire.shapes import exchanged, is_kind, is_name, is_program, is_shown, is_term, parts, uses
from oncewire.texts import read_program, read_term

from samples import ALL_SIGNS, NATS, chance, deep, deep_kind, odd_things, spoilt, wide


class Names(unittest.TestCase):

    def test_names(self):
        for name in ("a", "z", "ab", "abcdefgh", "zzzzzzzz", "def", "qwertyui"):
            self.assertIs(is_name(name), True, name)

    def test_lengths(self):
        for many in range(12):
            self.assertIs(is_name("a" * many), 1 <= many <= 8, many)

    def test_letters(self):
        for code in range(0, 0x250):
            self.assertIs(is_name(chr(code)), ord("a") <= code <= ord("z"), code)
            self.assertIs(is_name("b" + chr(code) + "b"), ord("a") <= code <= ord("z"), code)

    def test_things_that_are_none(self):
        for thing in odd_things():
            self.assertIs(is_name(thing), False)
        self.assertIs(is_name(("a",)), False)
        self.assertIs(is_name(thing=["a"]), False)


class Kinds(unittest.TestCase):

    def test_kinds(self):
        for kind in ("d", (">", "a", "b"), ("*", "a", "b"), ("*", (">", "a", "b"), ("*", "c", "d"))):
            self.assertIs(is_kind(kind), True, kind)

    def test_within_one_another(self):
        for sign in (">", "*"):
            for many in range(1, 13):
                self.assertIs(is_kind(deep_kind(many, sign)), many <= 6, many)

    def test_full_kind_of_six(self):
        kind = "d"
        for _ in range(5):
            kind = ("*", kind, kind)
        self.assertIs(is_kind(kind), True)
        self.assertIs(is_kind(("*", kind, "d")), False)
        self.assertIs(is_kind(("*", "d", kind)), False)

    def test_wrong_kinds(self):
        wrong = [
            (">", "a"), (">", "a", "b", "c"), ["*", "a", "b"], ("+", "a", "b"), (">", "a", "B"),
            ("*", "", "b"), (">", ["a"], "b"), (None, "a", "b"), (True, "a", "b"), ("a", "b", "c"),
            (">", "a", "abcdefghi"), ("*", "a", None), ([">"], "a", "b"), ">ab", ("**", "a", "b"),
        ]
        for thing in wrong + odd_things():
            self.assertIs(is_kind(thing), False)

    def test_shown(self):
        for kind in ("d", ("*", "a", "b"), ("*", ("*", "a", "b"), "c"), deep_kind(6, "*")):
            self.assertIs(is_shown(kind), True, kind)
        for kind in ((">", "a", "b"), ("*", "a", (">", "a", "b")), ("*", ("*", (">", "a", "b"), "c"), "d")):
            self.assertIs(is_shown(kind), False, kind)
        self.assertIs(is_shown(kind="d"), True)


class Terms(unittest.TestCase):

    def test_each_sign(self):
        for term in parts(ALL_SIGNS):
            self.assertIs(is_term(term), True, term)
        for term in ("x", ("@", "f"), ("#", "c", ()), ("?", "x", (("c", (), "y"),))):
            self.assertIs(is_term(term), True, term)

    def test_wrong_forms(self):
        wrong = [
            ("@",), ("@", "F"), ("@", ("@", "f")), ("@", "f", ()), ("^", "x", "x"), ("^", "X", "d", "x"),
            ("^", "x", (">", "a"), "x"), ("^", "x", deep_kind(7), "x"), ("^", ("x",), "d", "x"),
            ("!", "x"), ("!", "x", "y", "z"), ("&", "x", ["@", "f"]), ("/", "x", "y", "z"),
            ("/", "x", "y", "z", "Q"), ("/", "x", "y", 1, "y"), ("#", "c"), ("#", "c", "xy"),
            ("#", "C", ()), ("#", "c", ["x"]), ("#", "c", ("x", None)), ("?", "x", ()), ("?", "x"),
            ("?", "x", [("c", (), "y")]), ("?", "x", (["c", (), "y"],)), ("?", "x", (("c", "y"),)),
            ("?", "x", (("c", [], "y"),)), ("?", "x", (("c", "ab", "y"),)), ("?", "x", (("c", (1,), "y"),)),
            ("?", "x", (("c", ([],), "y"),)), ("?", "x", (("c", (), "y", "z"),)), ("?", "x", ((1, (), "y"),)),
            ("+", "x", "y", "z"), ("+", 1, "y", "z", "y"), ("-", "x"), ("-", "x", "y", "z"), ("%", "x", "y"),
            ("x",), ("x", "y"), ("", "x"), (None,), (["@"], "f"), "@f", "(! x y)",
        ]
        for thing in wrong + odd_things():
            self.assertIs(is_term(thing), False, repr(thing)[:60])

    def test_within_one_another(self):
        for sign in ("!", "&", "-"):
            for many in (29, 30, 31, 32, 60, 119):
                self.assertIs(is_term(deep(sign, many)), many <= 30, many)
        for many in (30, 31):
            for wrap in (
                lambda t: ("^", "x", "d", t), lambda t: ("!", "x", t), lambda t: ("/", "x", "x", "y", t),
                lambda t: ("/", t, "x", "y", "x"), lambda t: ("#", "c", (t,)), lambda t: ("+", "x", "x", "y", t),
                lambda t: ("?", t, (("c", (), "x"),)), lambda t: ("?", "x", (("c", (), t),)),
            ):
                term = "x"
                for _ in range(many - 1):
                    term = wrap(term)
                self.assertIs(is_term(term), many == 30)

    def test_how_many_parts(self):
        for many in (197, 199, 201, 203):
            self.assertEqual(len(parts(wide(many))), many)
            self.assertIs(is_term(wide(many)), many <= 200, many)
        self.assertIs(is_term(("#", "c", (wide(199),))), True)
        self.assertIs(is_term(("#", "c", (wide(197), "x", "x"))), True)
        self.assertIs(is_term(("#", "c", (wide(199), "x"))), False)

    def test_how_many_of_a_maker(self):
        for many in range(8):
            self.assertIs(is_term(("#", "c", ("x",) * many)), many <= 4, many)

    def test_how_many_cases(self):
        for many in range(9):
            self.assertIs(is_term(("?", "x", (("c", (), "y"),) * many)), 1 <= many <= 6, many)

    def test_how_many_names(self):
        for many in range(7):
            names = tuple("abcdefg"[:many])
            self.assertIs(is_term(("?", "x", (("c", names, "y"),))), many <= 4, many)

    def test_names_that_must_be_unlike(self):
        for sign in ("/", "+"):
            self.assertIs(is_term((sign, "t", "x", "y", "x")), True)
            self.assertIs(is_term((sign, "t", "x", "x", "x")), False)
        self.assertIs(is_term(("?", "t", (("c", ("x", "y", "x"), "x"),))), False)
        self.assertIs(is_term(("?", "t", (("c", ("x",), "x"), ("e", ("x",), "x")))), True)
        self.assertIs(is_term(("?", "x", (("c", ("c", "x"), "x"), ("c", (), "x")))), True)

    def test_worths_of_any_size(self):
        worth = ("#", "z", ())
        for at in range(1, 60):
            worth = ("#", "s", (worth,))
            self.assertIs(is_term(worth), at < 30, at)
        for _ in range(40):
            worth = ("&", worth, worth)
        self.assertIs(is_term(worth), False)
        worth = ("#", "z", ())
        for at in range(1, 29):
            worth = ("&", worth, worth)
            self.assertIs(is_term(worth), 2 ** (at + 1) - 1 <= 200, at)

    def test_spoilt_terms(self):
        luck = chance(5)
        small = [term for _, _, term in NATS[1]] + [ALL_SIGNS]
        for _ in range(2000):
            thing = spoilt(luck.choice(small), luck)
            self.assertIn(is_term(thing), (True, False))
            if isinstance(thing, list):
                self.assertIs(is_term(thing), False)


class Parts(unittest.TestCase):

    def test_each_sign(self):
        rows = [
            ("x", ["x"]), ("@f", ["@f"]), ("(^ x d t)", ["(^ x d t)", "t"]), ("(! t u)", ["(! t u)", "t", "u"]),
            ("(& t u)", ["(& t u)", "t", "u"]), ("(/ t x y u)", ["(/ t x y u)", "t", "u"]), ("(# c)", ["(# c)"]),
            ("(# c t u)", ["(# c t u)", "t", "u"]),
            ("(? t (c x : u) (e : w))", ["(? t (c x : u) (e : w))", "t", "u", "w"]),
            ("(+ t x y u)", ["(+ t x y u)", "t", "u"]), ("(- t u)", ["(- t u)", "t", "u"]),
        ]
        for text, told in rows:
            self.assertEqual(parts(read_term(text)), [read_term(row) for row in told])

    def test_each_ahead_of_its_own(self):
        term = read_term("(! (& a (# c b)) (? (- e f) (c : g) (h : (^ x d x))))")
        told = [
            term, term[1], "a", ("#", "c", ("b",)), "b", term[2], ("-", "e", "f"), "e", "f", "g",
            ("^", "x", "d", "x"), "x",
        ]
        self.assertEqual(parts(term), told)

    def test_the_list_is_new(self):
        first = parts(ALL_SIGNS)
        first.clear()
        self.assertEqual(parts(term=ALL_SIGNS)[0], ALL_SIGNS)

    def test_beyond_the_limits(self):
        self.assertEqual(len(parts(deep("!", 300))), 599)
        self.assertEqual(uses(deep("!", 300)), ["x", "y"])


class Uses(unittest.TestCase):

    def test_uses(self):
        rows = [
            ("x", ["x"]), ("@f", []), ("(^ x d x)", []), ("(^ x d y)", ["y"]), ("(! t u)", ["t", "u"]),
            ("(& u t)", ["u", "t"]), ("(& t t)", ["t"]), ("(/ t x y (& y (& z x)))", ["t", "z"]), ("(# c)", []),
            ("(# c b a b)", ["b", "a"]), ("(? t (c x : (& u x)) (e : (& w u)))", ["t", "u", "w"]),
            ("(+ t x y z)", ["t", "z"]), ("(- t u)", ["t", "u"]),
        ]
        for text, told in rows:
            self.assertEqual(uses(read_term(text)), told, text)

    def test_names_that_hide_one_another(self):
        rows = [
            ("(/ x x y (& x y))", ["x"]), ("(+ (& x y) x y (& x y))", ["x", "y"]), ("(& (^ x d x) x)", ["x"]),
            ("(& x (^ x d x))", ["x"]), ("(^ x d (& (^ x d x) x))", []), ("(? x (c x : x) (e : x))", ["x"]),
            ("(? t (c x y : x) (e y : x))", ["t", "x"]), ("(& (/ t a b (& a (^ t d t))) b)", ["t", "b"]),
            ("(^ a d (^ b d (& b (& c a))))", ["c"]),
        ]
        for text, told in rows:
            self.assertEqual(uses(read_term(text)), told, text)

    def test_makers_and_defs_are_no_names_that_are_used(self):
        self.assertEqual(uses(read_term("(& @x (# y (? z (w : (# w)))))")), ["z"])

    def test_the_list_is_new(self):
        first = uses("x")
        first.append("y")
        self.assertEqual(uses(term="x"), ["x"])


def data_kinds(many):
    """So many data kinds, each of one maker."""
    return tuple([(f"d{'abcdefghij'[at]}", ((f"c{'abcdefghij'[at]}", ()),)) for at in range(many)])


class Programs(unittest.TestCase):

    def test_programs(self):
        self.assertIs(is_program(NATS), True)
        self.assertIs(is_program(((("d", (("c", ()),)),), ())), True)
        alike = ((("d", (("d", ("d",)),)),), (("d", "d", "d"),))
        self.assertIs(is_program(alike), True)

    def test_how_many_data_kinds(self):
        for many in range(9):
            self.assertIs(is_program((data_kinds(many), ())), 1 <= many <= 6, many)

    def test_how_many_makers(self):
        for many in range(9):
            makers = tuple([(name, ()) for name in "abcdefghij"[:many]])
            self.assertIs(is_program(((("d", makers),), ())), 1 <= many <= 6, many)

    def test_how_many_fields(self):
        for many in range(7):
            self.assertIs(is_program(((("d", (("c", ("d",) * many),)),), ())), many <= 4, many)

    def test_how_many_defs(self):
        for many in (0, 1, 15, 16, 17, 18):
            defs = tuple([("f" + "abcdefghijklmnopqr"[at], "d", "x") for at in range(many)])
            self.assertIs(is_program((data_kinds(1), defs)), many <= 16, many)

    def test_two_alike(self):
        one = ("d", (("c", ()),))
        self.assertIs(is_program((((one, ("d", (("e", ()),)))), ())), False)
        self.assertIs(is_program((((one, ("e", (("c", ()),)))), ())), False)
        self.assertIs(is_program(((("d", (("c", ()), ("c", ("d",)))),), ())), False)
        self.assertIs(is_program(((one,), (("f", "d", "x"), ("f", "d", "y")))), False)
        self.assertIs(is_program(((one,), (("f", "d", "x"), ("g", "d", "x")))), True)

    def test_fields_of_the_program_alone(self):
        self.assertIs(is_program(((("d", (("c", ("e",)),)),), ())), False)
        self.assertIs(is_program(((("d", (("c", ("e",)),)), ("e", (("g", ("d",)),))), ())), True)
        self.assertIs(is_program(((("d", (("c", ("c",)),)),), ())), False)

    def test_kinds_and_terms_need_not_be_known(self):
        self.assertIs(is_program((data_kinds(1), (("f", "q", ("!", "x", ("@", "h"))),))), True)

    def test_wrong_programs(self):
        datas = (("d", (("c", ()),)),)
        wrong = [
            (datas,), (datas, (), ()), [datas, ()], (list(datas), ()), (datas, []), (datas, None), (None, ()),
            ((("D", (("c", ()),)),), ()), ((["d", (("c", ()),)],), ()), ((("d", [("c", ())]),), ()),
            ((("d", (["c", ()],)),), ()), ((("d", (("c", []),)),), ()), ((("d", (("c", (None,)),)),), ()),
            ((("d", (("c", ([],)),)),), ()), ((("d", (("C", ()),)),), ()), ((("d", (("c",),)),), ()),
            ((("d",),), ()), (("dc",), ()), (datas, (("f", "d"),)), (datas, (["f", "d", "x"],)),
            (datas, (("F", "d", "x"),)), (datas, (("f", deep_kind(7), "x"),)), (datas, (("f", "d", deep("!", 31)),)),
            (datas, (("f", "d", wide(201)),)), (datas, (("f", ["d"], "x"),)), (datas, ((["f"], "d", "x"),)),
            (datas, "f"), ("d", "f"), (datas, {"f": "d"}), ({"d": "c"}, ()),
        ]
        for thing in wrong + odd_things():
            self.assertIs(is_program(thing), False, repr(thing)[:60])

    def test_limits_in_defs(self):
        datas = (("d", (("c", ()),)),)
        rows = (("f", deep_kind(6), deep("!", 30)), ("g", "d", wide(199)))
        self.assertIs(is_program(thing=(datas, rows)), True)

    def test_spoilt_programs(self):
        luck = chance(7)
        for _ in range(2000):
            self.assertIn(is_program(spoilt(NATS, luck)), (True, False))


class Exchanged(unittest.TestCase):

    def test_every_place(self):
        program = read_program("(= n (n) (m n n)) (@ n (> n (* n n)) (^ n n (/ n n m (+ n n m (- m (! @n n))))))"
                               "(@ m n (? (# n) (n : (# m n @m)) (m n m : (& n m))))")
        told = read_program("(= q (q) (m q q)) (@ q (> q (* q q)) (^ q q (/ q q m (+ q q m (- m (! @q q))))))"
                            "(@ m q (? (# q) (q : (# m q @m)) (m q m : (& q m))))")
        self.assertEqual(exchanged(program, {"n": "q"}), told)
        self.assertEqual(exchanged(names={"q": "n"}, program=told), program)

    def test_at_once(self):
        program = read_program("(= a (b) (c a)) (@ b (> a a) (^ a a (? a (b : (# b)) (c c : c))))")
        told = read_program("(= b (c) (a b)) (@ c (> b b) (^ b b (? b (c : (# c)) (a a : a))))")
        self.assertEqual(exchanged(program, {"a": "b", "b": "c", "c": "a"}), told)
        back = exchanged(told, {"b": "a", "c": "b", "a": "c"})
        self.assertEqual(back, program)

    def test_names_that_do_not_stand_in_it(self):
        self.assertEqual(exchanged(NATS, {}), NATS)
        self.assertEqual(exchanged(NATS, {"qqq": "rrr"}), NATS)

    def test_all_signs(self):
        names = {name: name + "x" for name in "abcefgkmopqxyz"}
        program = ((("d", (("c", ()),)),), (("f", "d", ALL_SIGNS),))
        told = exchanged(program, names)
        self.assertIs(is_program(told), True)
        self.assertEqual(told[1][0][2], read_term(
            "(^ fx (> ax bx) (/ (! fx @gx) xx yx (+ xx cx ex (- yx (? cx (mx px qx : (& px qx))"
            " (ox : (# kx ex zx)))))))"
        ))

    def test_nothing_handed_in_is_changed(self):
        names = {"nat": "num", "num": "nat"}
        kept = copy.deepcopy(NATS)
        exchanged(NATS, names)
        self.assertEqual(names, {"nat": "num", "num": "nat"})
        self.assertEqual(NATS, kept)


if __name__ == "__main__":
    unittest.main()
