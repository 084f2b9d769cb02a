"""Points 2 and 8: oncewire.kinds."""

import copy
import unittest

from oncewire.errors import NoKind
from oncewire.kinds import is_kinding, kinding, let_by
from oncewire.shapes import exchanged, is_program, is_term, parts, uses
from oncewire.texts import read_kind, read_program, read_term

from samples import NATS, chance, deep, deep_kind, odd_things, spoilt

PROGRAM = read_program("""
(= n (z) (s n))
(= b (no) (yes))
(= l (nil) (cons n l))
(= one (only n b))
(@ f (> n b) @f)
(@ g (> b (> n n)) @g)
(@ p (* n b) @p)
(@ alien zzz @alien)
(@ six (> n (> n (> n (> n (> n n))))) @six)
""")

SCOPE = tuple([(name, read_kind(kind)) for name, kind in [
    ("a", "n"), ("c", "b"), ("e", "l"), ("h", "(> n b)"), ("q", "(* n l)"), ("o", "one"), ("i", "n"),
    ("five", "(* n (* n (* n (* n n))))"), ("sx", "(> n (> n (> n (> n (> n n)))))"), ("r", "(* n n)"),
]])


def told(text, program=PROGRAM, scope=SCOPE):
    """The kinding of a term by its text."""
    return kinding(program, read_term(text), scope=scope)


class Told(unittest.TestCase):

    def check(self, rows):
        for text, kind, used in rows:
            term = read_term(text)
            rows_told = told(text)
            self.assertEqual(rows_told[0], (read_kind(kind), tuple(used.split())), text)
            self.assertIs(type(rows_told), list)
            self.assertEqual([row[1] for row in rows_told], [tuple(uses(part)) for part in parts(term)])
            self.assertIs(is_kinding(PROGRAM, term, rows_told, scope=SCOPE), True)

    def test_each_sign(self):
        self.check([
            ("a", "n", "a"), ("h", "(> n b)", "h"), ("@f", "(> n b)", ""), ("@alien", "zzz", ""),
            ("(^ x n x)", "(> n n)", ""), ("(^ x n (& x a))", "(> n (* n n))", "a"),
            ("(^ x (> n b) x)", "(> (> n b) (> n b))", ""), ("(! h a)", "b", "h a"), ("(! @g c)", "(> n n)", "c"),
            ("(! (! @g c) a)", "n", "c a"), ("(& a c)", "(* n b)", "a c"), ("(& (& e c) h)", "(* (* l b) (> n b))", "e c h"),
            ("(/ q x y (& y x))", "(* l n)", "q"), ("(/ @p x y (& (& c x) y))", "(* (* b n) b)", "c"), ("(# z)", "n", ""),
            ("(# s a)", "n", "a"), ("(# cons a e)", "l", "a e"), ("(# only (# s i) (! h a))", "one", "i h a"),
            ("(? c (no : a) (yes : a))", "n", "c a"), ("(? a (z : @g) (s x : (- x @g)))", "(> b (> n n))", "a"),
            ("(? o (only x y : (& y (& a x))))", "(* b (* n n))", "o a"),
            ("(+ a x y (& x y))", "(* n n)", "a"), ("(+ e x y (# cons i (- x y)))", "l", "e i"), ("(- a c)", "b", "a c"),
            ("(- (! h a) @p)", "(* n b)", "h a"),
        ])

    def test_names_of_cases_in_another_order(self):
        self.check([
            ("(? c (no : (& a e)) (yes : (/ (& e a) x y (& y x))))", "(* n l)", "c a e"),
            ("(? c (no : (/ (& e a) x y (& y x))) (yes : (& a e)))", "(* n l)", "c e a"),
        ])

    def test_each_part_has_its_row(self):
        n, b, l = "n", "b", "l"
        self.assertEqual(told("(? e (nil : (! h a)) (cons x y : (- y (! (^ t n (! h t)) (- x a)))))"), [
            (b, ("e", "h", "a")), (l, ("e",)), (b, ("h", "a")), ((">", n, b), ("h",)), (n, ("a",)),
            (b, ("y", "h", "x", "a")), (l, ("y",)), (b, ("h", "x", "a")), ((">", n, b), ("h",)), (b, ("h", "t")),
            ((">", n, b), ("h",)), (n, ("t",)), (n, ("x", "a")), (n, ("x",)), (n, ("a",)),
        ])

    def test_names_that_hide_others(self):
        self.check([
            ("(^ a b (& a c))", "(> b (* b b))", "c"), ("(& a (^ a b a))", "(* n (> b b))", "a"),
            ("(/ q q a (& q a))", "(* n l)", "q"), ("(+ a a c (& c a))", "(* n n)", "a"),
            ("(? e (nil : @p) (cons a e : (- e (& a (# no)))))", "(* n b)", "e"), ("(! (^ a n (! h a)) a)", "b", "h a"),
            ("(? a (z : i) (s a : (- a i)))", "n", "a i"),
        ])

    def test_alien_data_kinds_are_data_kinds_by_name(self):
        self.check([("(+ @alien x y (& x y))", "(* zzz zzz)", ""), ("(- @alien a)", "n", "a")])

    def test_kinds_of_six(self):
        self.check([("(& c five)", "(* b (* n (* n (* n (* n n)))))", "c five"), ("sx", "(> n (> n (> n (> n (> n n)))))", "sx"),
                    ("(^ x b (& x (/ five k m (- k m))))", "(> b (* b (* n (* n (* n n)))))", "five")])

    def test_no_scope(self):
        rows = [("n", ()), ("n", ())]
        self.assertEqual(kinding(PROGRAM, ("#", "s", (("#", "z", ()),))), rows)
        self.assertEqual(kinding(program=PROGRAM, term=("#", "s", (("#", "z", ()),)), scope=()), rows)
        with self.assertRaises(TypeError):
            kinding(PROGRAM, "a", SCOPE)

    def test_lists_are_new(self):
        term = read_term("(& a c)")
        first = kinding(PROGRAM, term, scope=SCOPE)
        kept = copy.deepcopy(first)
        first.reverse()
        first.append("more")
        self.assertEqual(kinding(PROGRAM, term, scope=SCOPE), kept)


class Faults(unittest.TestCase):

    def check(self, rows):
        for text, at, why in rows:
            term = read_term(text)
            for ahead in ("", "(- i ", "(& (# s i) "):
                moved = read_term(ahead + text + ")") if ahead else term
                more = {"": 0, "(- i ": 2, "(& (# s i) ": 3}[ahead]
                with self.assertRaises(NoKind) as caught:
                    kinding(PROGRAM, moved, scope=SCOPE)
                fault = caught.exception
                self.assertEqual((fault.name, fault.at, fault.why), (None, at + more, why), text)
                self.assertIs(is_kinding(PROGRAM, moved, [], scope=SCOPE), False)

    def test_names_and_defs(self):
        self.check([("x", 0, "name"), ("(& a x)", 2, "name"), ("@z", 0, "def"), ("@a", 0, "def"), ("(! @f @n)", 2, "def"),
                    ("f", 0, "name"), ("(/ q x y (& (& x y) w))", 6, "name"), ("(& (^ x n x) x)", 3, "name"),
                    ("(& (/ q x y (& x y)) x)", 6, "name"), ("(/ (& x q) x y (& x y))", 2, "name"),
                    ("(+ x x y (& x y))", 1, "name"), ("(? x (z : a) (s x : x))", 1, "name"),
                    ("(? a (z : x) (s x : x))", 2, "name")])

    def test_functions(self):
        self.check([
            ("(^ x zzz x)", 0, "data"), ("(^ x (> n (* b q)) x)", 0, "data"), ("(^ x (* w n) w)", 0, "data"),
            ("(^ x zzz w)", 0, "data"), ("(^ x n w)", 1, "name"), ("(^ x n sx)", 0, "kind"), ("(^ x n @six)", 0, "kind"),
            ("(^ x n (- x @six))", 0, "kind"), ("(^ x n a)", 0, "unused"), ("(^ x n (^ x b x))", 0, "unused"),
            ("(^ x (* n (* n (* n (* n (* n n))))) x)", 0, "kind"), ("(^ x n (! @f (# z)))", 0, "unused"),
        ])

    def test_calls(self):
        self.check([
            ("(! a a)", 0, "kind"), ("(! q a)", 0, "kind"), ("(! h c)", 0, "kind"), ("(! h q)", 0, "kind"),
            ("(! (^ x n (& x h)) (! h a))", 0, "kind"), ("(! w a)", 1, "name"), ("(! a w)", 2, "name"),
            ("(! w @w)", 1, "name"), ("(! @w w)", 1, "def"), ("(! (^ x n (& x a)) a)", 0, "twice"),
            ("(! @f (! h a))", 0, "kind"), ("(! (! @g c) (? c (no : a) (yes : a)))", 0, "twice"),
        ])

    def test_pairs(self):
        self.check([
            ("(& a a)", 0, "twice"), ("(& five (& a a))", 2, "twice"), ("(& a (& c sx))", 2, "kind"), ("(& sx sx)", 0, "kind"),
            ("(& c @six)", 0, "kind"), ("(& (& a e) (& c e))", 0, "twice"), ("(& w (& a a))", 1, "name"),
            ("(& (& a a) w)", 1, "twice"),
        ])

    def test_partings(self):
        self.check([
            ("(/ a x y (& x y))", 0, "kind"), ("(/ h x y w)", 0, "kind"), ("(/ q x y w)", 2, "name"),
            ("(/ q x y (& x (& y q)))", 0, "twice"), ("(/ (& a c) x y (& x (& y a)))", 0, "twice"),
            ("(/ q x y q)", 0, "twice"), ("(/ q x y x)", 0, "unused"), ("(/ q x y y)", 0, "unused"), ("(/ q x y a)", 0, "unused"),
            ("(/ q x y (& x (^ y n y)))", 0, "unused"), ("(/ w x y @w)", 1, "name"), ("(/ q q a q)", 0, "unused"),
        ])

    def test_makers(self):
        self.check([
            ("(# w)", 0, "maker"), ("(# n)", 0, "maker"), ("(# f w)", 0, "maker"), ("(# z a)", 0, "maker"),
            ("(# s)", 0, "maker"), ("(# s a i)", 0, "maker"), ("(# cons a)", 0, "maker"), ("(# s w w)", 0, "maker"),
            ("(# s w)", 1, "name"), ("(# s c)", 0, "kind"), ("(# s h)", 0, "kind"), ("(# cons e a)", 0, "kind"),
            ("(# cons a w)", 2, "name"), ("(# only (! @g c) c)", 0, "kind"), ("(# only (! (! @g c) a) c)", 0, "twice"),
            ("(# cons (# s a) (# cons a e))", 0, "twice"), ("(# cons c c)", 0, "kind"),
        ])

    def test_choices(self):
        self.check([
            ("(? w (z : w))", 1, "name"), ("(? h (z : w))", 0, "kind"), ("(? q (z : w) (s x : w))", 0, "kind"),
            ("(? @alien (z : a))", 0, "cases"), ("(? @alien (zzz : w))", 0, "cases"), ("(? a (z : i))", 0, "cases"),
            ("(? a (s x : x) (z : i))", 0, "cases"), ("(? a (z : i) (s : i))", 0, "cases"),
            ("(? a (z x : x) (s x : x))", 0, "cases"), ("(? a (z : i) (s x y : x))", 0, "cases"),
            ("(? a (z : i) (s x : x) (z : i))", 0, "cases"), ("(? a (z : w) (z : w))", 0, "cases"),
            ("(? c (no : w) (yes : w))", 2, "name"), ("(? c (no : a) (yes : w))", 3, "name"),
            ("(? c (no : a) (yes : e))", 0, "kind"), ("(? a (z : a) (s x : (- x a)))", 0, "twice"),
            ("(? a (z : i) (s x : (- x a)))", 0, "twice"), ("(? a (z : a) (s a : a))", 0, "twice"),
            ("(? c (no : a) (yes : i))", 0, "unlike"), ("(? c (no : (# z)) (yes : a))", 0, "unlike"),
            ("(? c (no : a) (yes : (# z)))", 0, "unlike"), ("(? a (z : (# z)) (s x : (# z)))", 0, "unused"),
            ("(? o (only x y : x))", 0, "unused"), ("(? e (nil : a) (cons x y : (- y a)))", 0, "unused"),
            ("(? a (z : i) (s i : (# z)))", 0, "unlike"), ("(? a (z : (# z)) (s i : (# z)))", 0, "unused"),
        ])

    def test_copies(self):
        self.check([
            ("(+ h x y w)", 0, "kind"), ("(+ q x y (& x y))", 0, "kind"), ("(+ a x y w)", 2, "name"),
            ("(+ w x y w)", 1, "name"), ("(+ a x y (& x (& y a)))", 0, "twice"), ("(+ a x y a)", 0, "twice"),
            ("(+ a x y x)", 0, "unused"), ("(+ a x y y)", 0, "unused"), ("(+ a x y i)", 0, "unused"), ("(+ a x a x)", 0, "unused"),
        ])

    def test_drops(self):
        self.check([
            ("(- h w)", 0, "kind"), ("(- q a)", 0, "kind"), ("(- w w)", 1, "name"), ("(- a w)", 2, "name"), ("(- a a)", 0, "twice"),
            ("(- (! h a) (& c a))", 0, "twice"),
        ])

    def test_two_faults_at_once(self):
        self.check([
            ("(^ x n (& a a))", 1, "twice"), ("(& (^ x n a) (^ x zzz x))", 1, "unused"),
            ("(& (^ x zzz x) (^ x n a))", 1, "data"), ("(! (& a a) (& a a))", 1, "twice"), ("(! a (& a a))", 2, "twice"),
            ("(/ a x y (& a a))", 0, "kind"), ("(/ q x y (& a a))", 2, "twice"), ("(+ q x y w)", 0, "kind"),
            ("(+ a x y (& x x))", 2, "twice"), ("(- q w)", 0, "kind"), ("(- a (& a a))", 2, "twice"),
            ("(# s (& c c) a)", 0, "maker"), ("(# cons c (& c c))", 2, "twice"), ("(# cons e e)", 0, "kind"),
            ("(? q (z : (& a a)))", 0, "kind"), ("(? a (z : (& a a)))", 0, "cases"),
            ("(? c (no : (& a a)) (yes : w))", 2, "twice"), ("(? c (no : a) (yes : c))", 0, "kind"),
            ("(? e (nil : (# z)) (cons x y : e))", 0, "kind"), ("(? a (z : a) (s x : (# z)))", 0, "twice"),
            ("(? c (no : c) (yes : (# no)))", 0, "twice"), ("(? o (only x y : o))", 0, "twice"),
            ("(? a (z : (# z)) (s x : i))", 0, "unlike"),
        ])


class IsKinding(unittest.TestCase):

    TERM = read_term("(? e (nil : (! h a)) (cons x y : (- y (! (^ t n (! h t)) (- x a)))))")

    def test_of_the_kinding(self):
        thing = kinding(PROGRAM, self.TERM, scope=SCOPE)
        self.assertIs(is_kinding(PROGRAM, self.TERM, thing, scope=SCOPE), True)
        self.assertIs(is_kinding(program=PROGRAM, term=self.TERM, thing=thing, scope=SCOPE), True)
        self.assertIs(is_kinding(PROGRAM, ("#", "z", ()), [("n", ())]), True)
        with self.assertRaises(TypeError):
            is_kinding(PROGRAM, self.TERM, thing, SCOPE)

    def test_of_it_spoilt(self):
        luck = chance(11)
        thing = kinding(PROGRAM, self.TERM, scope=SCOPE)
        for _ in range(3000):
            other = spoilt(thing, luck)
            self.assertIs(is_kinding(PROGRAM, self.TERM, other, scope=SCOPE), other == thing)

    def test_of_it_spoilt_a_little(self):
        thing = kinding(PROGRAM, self.TERM, scope=SCOPE)
        self.assertIs(is_kinding(PROGRAM, self.TERM, tuple(thing), scope=SCOPE), False)
        self.assertIs(is_kinding(PROGRAM, self.TERM, thing[:-1], scope=SCOPE), False)
        self.assertIs(is_kinding(PROGRAM, self.TERM, thing + [("n", ())], scope=SCOPE), False)
        for at, (kind, used) in enumerate(thing):
            rows = [[kind, used], (kind, list(used)), (kind, used + ("z",)), (kind, used, ()), (kind,), ("zzz", used), None]
            if len(used) > 0:
                rows.append((kind, used[1:]))
            if len(used) > 1:
                rows.append((kind, used[::-1]))
            for row in rows:
                other = thing[:at] + [row] + thing[at + 1:]
                self.assertIs(is_kinding(PROGRAM, self.TERM, other, scope=SCOPE), False)

    def test_of_anything(self):
        for thing in odd_things():
            self.assertIs(is_kinding(PROGRAM, self.TERM, thing, scope=SCOPE), False)
            self.assertIs(is_kinding(PROGRAM, "a", thing, scope=SCOPE), False)

    def test_of_a_term_with_a_fault(self):
        for text in ("x", "(& a a)", "(^ x n a)"):
            for thing in odd_things() + [[("n", ("x",))], [("n", ())]]:
                self.assertIs(is_kinding(PROGRAM, read_term(text), thing, scope=SCOPE), False)

    def test_the_scope_counts(self):
        self.assertIs(is_kinding(PROGRAM, "a", [("n", ("a",))]), False)
        self.assertIs(is_kinding(PROGRAM, "a", [("n", ("a",))], scope=(("a", "b"),)), False)
        self.assertIs(is_kinding(PROGRAM, "a", [("n", ("a",))], scope=(("a", "n"),)), True)


class LetBy(unittest.TestCase):

    def fault(self, text):
        with self.assertRaises(NoKind) as caught:
            let_by(read_program(text))
        return (caught.exception.name, caught.exception.at, caught.exception.why)

    def test_each_def_with_its_kinding(self):
        found = let_by(NATS)
        self.assertEqual(list(found), [name for name, _, _ in NATS[1]])
        for name, kind, term in NATS[1]:
            self.assertEqual(found[name], kinding(NATS, term))
            self.assertEqual(found[name][0], (kind, ()))
            self.assertEqual(len(found[name]), len(parts(term)))
        self.assertEqual(let_by(program=((("d", (("c", ()),)),), ())), {})

    def test_dicts_and_lists_are_new(self):
        first = let_by(NATS)
        kept = copy.deepcopy(first)
        first["add"].clear()
        del first["double"]
        self.assertEqual(let_by(NATS), kept)

    def test_nothing_handed_in_is_changed(self):
        kept = copy.deepcopy(NATS)
        let_by(NATS)
        self.assertEqual(NATS, kept)

    def test_faults(self):
        data = "(= n (z) (s n)) (= b (no) (yes))"
        rows = [
            ("(@ f q (# z))", ("f", 0, "data")), ("(@ f (> n (* q n)) w)", ("f", 0, "data")),
            ("(@ f n (# no))", ("f", 0, "kind")), ("(@ f (> n n) (^ x b x))", ("f", 0, "kind")),
            ("(@ f n x)", ("f", 0, "name")), ("(@ f n (# s (# s x)))", ("f", 2, "name")), ("(@ f b (# s x))", ("f", 1, "name")),
            ("(@ f n @g)", ("f", 0, "def")), ("(@ f n @g) (@ g b (# no))", ("f", 0, "kind")),
            ("(@ f n (# z)) (@ g b (# z)) (@ h q x)", ("g", 0, "kind")), ("(@ f n (# z)) (@ g q x) (@ h n (# no))", ("g", 0, "data")),
            ("(@ f n (- @g (# z))) (@ g q @g)", ("g", 0, "data")), ("(@ f n (? @g (z : (# z)))) (@ g q @g)", ("f", 0, "cases")),
            ("(@ f n @f) (@ g n (& x x))", ("g", 1, "name")), ("(@ n z (# z))", ("n", 0, "data")),
        ]
        for text, fault in rows:
            self.assertEqual(self.fault(data + text), fault, text)

    def test_no_def_has_a_scope(self):
        self.assertEqual(self.fault("(= n (z)) (@ f (> n n) (^ x n x)) (@ g n x)"), ("g", 0, "name"))

    def test_names_exchanged(self):
        names = {"nat": "bool", "bool": "nat", "add": "a", "a": "add", "z": "s", "s": "z", "x": "y", "y": "x"}
        other = exchanged(NATS, names)
        self.assertIs(is_program(other), True)
        found = let_by(other)
        for name, rows in let_by(NATS).items():
            used = [tuple([names.get(x, x) for x in row]) for _, row in rows]
            self.assertEqual([row for _, row in found[names.get(name, name)]], used)

    def test_one_name_for_all(self):
        self.assertEqual(let_by(read_program("(= x (x)) (@ x (> x x) (^ x x (? x (x : (# x)))))"))["x"][1], ("x", ("x",)))

    def test_at_the_limits(self):
        term = deep("-", 30)
        scope = (("x", "n"), ("y", "n"))
        self.assertIs(is_term(term), True)
        with self.assertRaises(NoKind) as caught:
            kinding(PROGRAM, term, scope=scope)
        self.assertEqual((caught.exception.at, caught.exception.why), (27, "twice"))
        inner = "x"
        for _ in range(29):
            inner = ("#", "s", (inner,))
        self.assertEqual(kinding(PROGRAM, inner, scope=scope), [("n", ("x",))] * 30)
        self.assertEqual(kinding(PROGRAM, "w", scope=(("w", deep_kind(6)),)), [(deep_kind(6), ("w",))])


if __name__ == "__main__":
    unittest.main()
