"""Points 2 and 9: oncewire.meaning."""

import copy
import inspect
import unittest

from oncewire import meaning as module
from oncewire.errors import NoDef, NotShown, TooLong
from oncewire.kinds import let_by
from oncewire.meaning import MOST, is_road, meaning, road_of
from oncewire.shapes import exchanged, is_shown
from oncewire.texts import read_program, read_term, term_text

from chances import programs
from samples import NATS, chance, odd_things, spoilt
from worths import Endless, reckoned

DATA = "(= n (z) (s n)) (= b (no) (yes)) (= l (nil) (cons n l)) (= w (only n b))"

ENDLESS = read_program(DATA + """
(@ itself n @itself)
(@ there n @back) (@ back n @there)
(@ called n (! @loop (# z))) (@ loop (> n n) (^ x n (! @loop x)))
(@ within n (# s @within))
(@ dropped n (- @dropped (# z)))
(@ copied n (+ @copied x y (- x y)))
(@ paired (* n b) (& (# z) (/ @paired x y (- x y))))
(@ parted n (/ @pairs x y (- x y))) (@ pairs (* n n) (& @parted (# z)))
(@ chosen n (? (# s @chosen) (z : (# z)) (s m : m)))
(@ incase n (? (# z) (z : @incase) (s m : m)))
""")


def numeral(many):
    """The worth of a number."""
    told = ("#", "z", ())
    for _ in range(many):
        told = ("#", "s", (told,))
    return told


def told(text, f="f"):
    """The meaning of the def f of a program by its text."""
    program = read_program(DATA + text)
    let_by(program)
    return meaning(program, f)


class Steps(unittest.TestCase):

    def check(self, text, worth, counts):
        found, steps = told(text)
        self.assertEqual(found, read_term(worth), text)
        self.assertEqual(steps, counts, text)
        self.assertIs(type(found), tuple)
        self.assertIs(type(steps), dict)

    def test_open(self):
        self.check("(@ f n (# z))", "(# z)", {("open", "f"): 1})
        self.check("(@ f n @g) (@ g n @h) (@ h n (# z))", "(# z)", {("open", "f"): 1, ("open", "g"): 1, ("open", "h"): 1})
        self.check("(@ f (* n n) (& @g @g)) (@ g n (# z))", "(& (# z) (# z))", {("open", "f"): 1, ("open", "g"): 2})

    def test_call(self):
        self.check("(@ f n (! (^ x n (# s x)) (# z)))", "(# s (# z))", {("open", "f"): 1, ("call",): 1})
        self.check("(@ f n (! (! @k (# z)) (# no))) (@ k (> n (> b n)) (^ x n (^ y b (- y x))))", "(# z)",
                   {("open", "f"): 1, ("open", "k"): 1, ("call",): 2, ("drop", "no"): 1})
        self.check("(@ f n (! (! @i @g) (# z))) (@ g (> n n) (^ x n (# s x))) (@ i (> (> n n) (> n n)) (^ h (> n n) h))",
                   "(# s (# z))", {("open", "f"): 1, ("open", "g"): 1, ("open", "i"): 1, ("call",): 2})

    def test_a_function_keeps_the_worths_of_its_names(self):
        self.check("(@ f n (! (! (^ x n (^ y n (! (^ z n (# s x)) (- y y))))"
                   " (# z)) (# s (# z))))".replace("(^ z n (# s x))", "(^ z n (- z (# s x)))").replace("(- y y)", "y"),
                   "(# s (# z))",
                   {("open", "f"): 1, ("call",): 3, ("drop", "s"): 1, ("drop", "z"): 1})
        # The x of the function's own and the one around the call are two.
        self.check("(@ f n (! (^ g (> n n) (! (^ x n (! g (# s x))) (# z))) (! (^ x n (^ y n (- x y))) (# s (# z)))))",
                   "(# s (# z))", {("open", "f"): 1, ("call",): 4, ("drop", "s"): 1, ("drop", "z"): 1})

    def test_pairs_and_part(self):
        self.check("(@ f (* b n) (/ (& (# z) (# no)) x y (& y (# s x))))", "(& (# no) (# s (# z)))",
                   {("open", "f"): 1, ("part",): 1})
        self.check("(@ f n (/ (& (^ x n (# s x)) (# z)) g y (! g y)))", "(# s (# z))",
                   {("open", "f"): 1, ("part",): 1, ("call",): 1})
        self.check("(@ f (* (* n b) l) (& (& (# z) (# no)) (# nil)))", "(& (& (# z) (# no)) (# nil))", {("open", "f"): 1})

    def test_makers_have_no_step(self):
        self.check("(@ f l (# cons (# s (# z)) (# cons (# z) (# nil))))", "(# cons (# s (# z)) (# cons (# z) (# nil)))",
                   {("open", "f"): 1})

    def test_choice(self):
        self.check("(@ f n (? (# cons (# s (# z)) (# nil)) (nil : (# z)) (cons h t : (? t (nil : h) (cons i u : (- h (- u i)))))))",
                   "(# s (# z))", {("open", "f"): 1, ("choice", "cons"): 1, ("choice", "nil"): 1})
        self.check("(@ f (* n b) (? (# only (# z) (# no)) (only y x : (& y x))))", "(& (# z) (# no))",
                   {("open", "f"): 1, ("choice", "only"): 1})
        self.check("(@ f n (! (^ a n (? (# no) (no : (# s a)) (yes : a))) (# z)))", "(# s (# z))",
                   {("open", "f"): 1, ("call",): 1, ("choice", "no"): 1})
        self.check("(@ f n (! (^ a n (? (# yes) (no : (# s a)) (yes : a))) (# z)))", "(# z)",
                   {("open", "f"): 1, ("call",): 1, ("choice", "yes"): 1})

    def test_a_case_that_is_not_chosen_is_not_reckoned(self):
        self.check("(@ f n (? (# no) (no : (# z)) (yes : @f)))", "(# z)", {("open", "f"): 1, ("choice", "no"): 1})

    def test_copy(self):
        self.check("(@ f (* n n) (+ (# s (# s (# z))) x y (& x y)))", "(& (# s (# s (# z))) (# s (# s (# z))))",
                   {("open", "f"): 1, ("copy", "s"): 2, ("copy", "z"): 1})
        self.check("(@ f (* l l) (+ (# cons (# s (# z)) (# cons (# z) (# nil))) x y (& x y)))",
                   "(& (# cons (# s (# z)) (# cons (# z) (# nil))) (# cons (# s (# z)) (# cons (# z) (# nil))))",
                   {("open", "f"): 1, ("copy", "cons"): 2, ("copy", "s"): 1, ("copy", "z"): 2, ("copy", "nil"): 1})
        self.check("(@ f (* n (* n n)) (+ (# z) x y (+ x v w (& y (& v w)))))", "(& (# z) (& (# z) (# z)))",
                   {("open", "f"): 1, ("copy", "z"): 2})

    def test_drop(self):
        self.check("(@ f b (- (# only (# s (# z)) (# no)) (# yes)))", "(# yes)",
                   {("open", "f"): 1, ("drop", "only"): 1, ("drop", "s"): 1, ("drop", "z"): 1, ("drop", "no"): 1})
        self.check("(@ f b (- @g (# yes))) (@ g n (! (^ x n x) (# z)))", "(# yes)",
                   {("open", "f"): 1, ("open", "g"): 1, ("call",): 1, ("drop", "z"): 1})

    def test_recursion(self):
        program = (NATS[0], NATS[1] + read_program(
            "(= nat (z)) (@ f nat (! (! @add (# s (# s (# z)))) @three)) (@ g nat (! @double @three))"
            "(@ h bool (! @even @three)) (@ k nat (! @sum (# cons @three (# cons (# s (# z)) (# nil)))))")[1])
        let_by(program)
        self.assertEqual(meaning(program, "f"), (numeral(5), {
            ("open", "f"): 1, ("open", "add"): 3, ("open", "three"): 1, ("call",): 6, ("choice", "s"): 2, ("choice", "z"): 1}))
        self.assertEqual(meaning(program, "g"), (numeral(6), {
            ("open", "g"): 1, ("open", "double"): 1, ("open", "three"): 1, ("open", "add"): 4, ("call",): 9,
            ("copy", "s"): 3, ("copy", "z"): 1, ("choice", "s"): 3, ("choice", "z"): 1}))
        self.assertEqual(meaning(program, "h")[0], ("#", "no", ()))
        self.assertEqual(meaning(program, "h")[1], {
            ("open", "h"): 1, ("open", "three"): 1, ("open", "even"): 4, ("call",): 4, ("choice", "s"): 3, ("choice", "z"): 1,
            ("choice", "yes"): 2, ("choice", "no"): 1})
        self.assertEqual(meaning(program, "k")[0], numeral(4))

    def test_names_exchanged(self):
        names = {"n": "b", "b": "n", "z": "only", "only": "z", "x": "y", "y": "x", "f": "g", "g": "f"}
        program = read_program(DATA + "(@ f (* n b) (/ (& (# s (# z)) (# no)) x y (- x (& @g y)))) (@ g n (# s (# z)))")
        worth, counts = meaning(program, "f")
        other, others = meaning(exchanged(program, names), "g")
        self.assertEqual(other, ("&", ("#", "s", (("#", "only", ()),)), ("#", "no", ())))
        self.assertEqual(others, {(row[0], *[names.get(name, name) for name in row[1:]]): many for row, many in counts.items()})


class Most(unittest.TestCase):

    def test_most_is_2000(self):
        self.assertEqual(MOST, 2000)
        self.assertEqual(inspect.signature(meaning).parameters["most"].default, 2000)
        self.assertEqual(inspect.signature(meaning).parameters["most"].kind, inspect.Parameter.KEYWORD_ONLY)
        self.assertEqual(module.MOST, 2000)

    def test_just_the_steps_one_fewer_and_none(self):
        for f, kind, _ in NATS[1]:
            if is_shown(kind):
                steps = sum(meaning(NATS, f)[1].values())
                self.assertEqual(meaning(NATS, f, most=steps), meaning(NATS, f))
                for most in (steps - 1, 0, -1):
                    with self.assertRaises(TooLong):
                        meaning(NATS, f, most=most)
        program = read_program(DATA + "(@ f n (- (# cons (# s (# z)) (# nil)) (+ (# s (# z)) x y (- x y))))")
        for most in range(9):
            with self.assertRaises(TooLong):
                meaning(program, "f", most=most)
        self.assertEqual(sum(meaning(program=program, f="f", most=9)[1].values()), 9)

    def test_most_left_out(self):
        for many in (1, 2, 3, 153, 154, 155, 1999, 2000):
            self.assertEqual(sum(meaning(of_steps(many), "f")[1].values()), many)
        for many in (2001, 2002, 2150):
            program = of_steps(many)
            with self.assertRaises(TooLong):
                meaning(program, "f")
            worth, counts = meaning(program, "f", most=10 ** 40)
            self.assertEqual((worth, sum(counts.values())), (numeral(0), many))


def dropping(many, then):
    """A term in which so many makers are dropped ahead of then."""
    while many > 0:
        now = min(many, 20)
        then = "(- " + "(# s " * (now - 1) + "(# z)" + ")" * (now - 1) + " " + then + ")"
        many -= now
    return then


def of_steps(many):
    """A program whose def f has just so many steps."""
    left = many - 1
    body, rows = "(# z)", []
    while left > 1:
        # The open step, the drops, the drop of what is told.
        now = min(left, 152)
        name = "g" + "abcdefghijklmnop"[len(rows)]
        rows.append(f"(@ {name} n {dropping(now - 2, '(# z)')})")
        body = f"(- @{name} {body})"
        left -= now
    return read_program(DATA + "".join(rows) + f"(@ f n {dropping(left, body)})")


class Deep(unittest.TestCase):

    def test_sixty_makers_within_one_another(self):
        text = "(@ f n " + "(# s " * 20 + "@g" + ")" * 20 + ") (@ g n " + "(# s " * 20 + "@h" + ")" * 20 + ") (@ h n "
        worth, counts = told(text + "(# s " * 19 + "(# z)" + ")" * 19 + ")")
        self.assertEqual(worth, numeral(59))
        self.assertEqual(counts, {("open", "f"): 1, ("open", "g"): 1, ("open", "h"): 1})
        self.assertEqual(term_text(worth), "(# s " * 59 + "(# z)" + ")" * 59)

    def test_sixty_makers_copied_and_dropped(self):
        text = "(@ f (* n n) (+ @g x y (- (# s x) (& y @g)))) (@ g n " + "(# s " * 28 + "@h" + ")" * 28 + ")"
        worth, counts = told(text + "(@ h n " + "(# s " * 28 + "(# z)" + ")" * 28 + ")")
        self.assertEqual(worth, ("&", numeral(56), numeral(56)))
        self.assertEqual(counts[("copy", "s")], 56)
        self.assertEqual(counts[("drop", "s")], 57)

    def test_sixty_steps_within_one_another(self):
        # Each number's case calls ahead of the end of the one around it: 29 times "open" and "call".
        text = "(@ id (> n n) (^ x n (? x (z : (# z)) (s m : (# s (! @id m))))))"
        worth, counts = told(text + "(@ f n (! @id " + "(# s " * 27 + "(# z)" + ")" * 27 + "))")
        self.assertEqual(worth, numeral(27))
        self.assertEqual(counts, {("open", "f"): 1, ("open", "id"): 28, ("call",): 28, ("choice", "s"): 27, ("choice", "z"): 1})
        # Fifty-nine calls within the opened def.
        more = "(@ g n " + "(# s " * 29 + "@h" + ")" * 29 + ") (@ h n " + "(# s " * 28 + "(# z)" + ")" * 28 + ")"
        worth, counts = told(text + more + "(@ f n (! @id @g))")
        self.assertEqual(worth, numeral(57))
        self.assertEqual(counts[("call",)], 58)
        for inner in ("(& @id (# z))", "(& (^ x n x) (# z))"):
            worth, _ = told(text + f"(@ f n (/ {inner} g x (! g (- (! (^ y n y) (! @id (# s (# z)))) x))))")
            self.assertEqual(worth, numeral(0))

    def test_a_chain_of_functions(self):
        rows = ["(@ f n (! @a (# z)))"]
        names = "abcdeghijklmno"
        for at, name in enumerate(names):
            inner = "(# s x)" if at == len(names) - 1 else f"(! @{names[at + 1]} (! @{names[at + 1]} x))"
            if at < len(names) - 4:
                inner = f"(# s (! @{names[at + 1]} x))"
            rows.append(f"(@ {name} (> n n) (^ x n {inner}))")
        worth, counts = told("".join(rows))
        self.assertEqual(worth, numeral(10 + 8))
        self.assertEqual(counts[("call",)], 10 + 1 + 2 + 4 + 8)


class WithoutEnd(unittest.TestCase):

    def test_each_sort(self):
        let_by(ENDLESS)
        for f, kind, _ in ENDLESS[1]:
            if is_shown(kind) and f != "incase":
                for most in (None, 0, 1, 7, 60, 3000):
                    with self.assertRaises(TooLong):
                        if most is None:
                            meaning(ENDLESS, f)
                        else:
                            meaning(ENDLESS, f, most=most)

    def test_in_a_case(self):
        with self.assertRaises(TooLong):
            meaning(ENDLESS, "incase")

    def test_a_row_that_grows(self):
        for body in ("(# node @f @f)", "(+ @f x y (# node x y))", "(- @f @f)", "(+ (# node @f @f) x y (- x y))"):
            program = read_program(f"(= t (leaf) (node t t)) (@ f t {body})")
            with self.assertRaises(TooLong):
                meaning(program, "f")
            with self.assertRaises(TooLong):
                meaning(program, "f", most=60)

    def test_copies_that_grow(self):
        # Twice as many at each call: the steps of "copy" come to the end of most.
        program = read_program("(= t (leaf) (node t t)) (@ f t (! @g (# leaf)))"
                               "(@ g (> t t) (^ x t (+ x y z (! @g (# node y z)))))")
        with self.assertRaises(TooLong):
            meaning(program, "f", most=20000)


class Refused(unittest.TestCase):

    def test_no_def_of_anything(self):
        for thing in odd_things() + ["nat", "z", "n", "ad", "addd", ("add",), ["add"], {"add": 1}, ("def", "three")]:
            for most in (MOST, 0):
                with self.assertRaises(NoDef):
                    meaning(NATS, thing, most=most)
            with self.assertRaises(NoDef):
                road_of(NATS, thing)
        with self.assertRaises(NoDef):
            meaning((NATS[0], ()), "three")

    def test_not_shown_ahead_of_too_long(self):
        for f in ("add", "double", "swap", "loose", "even", "sum", "twice"):
            for most in (MOST, 0, -1):
                with self.assertRaises(NotShown):
                    meaning(NATS, f, most=most)
        with self.assertRaises(NotShown):
            meaning(ENDLESS, "loop")
        with self.assertRaises(NotShown):
            meaning(read_program(DATA + "(@ f (* n (* b (> n n))) (& (# z) (& (# no) (^ x n x))))"), "f")

    def test_nothing_handed_in_is_changed(self):
        kept = copy.deepcopy(NATS)
        meaning(NATS, "three")
        road_of(NATS, "add")
        is_road(NATS, "add", ["add", "add"])
        self.assertEqual(NATS, kept)

    def test_dicts_are_new(self):
        first = meaning(NATS, "three")[1]
        first[("open", "three")] = 9
        first.clear()
        self.assertEqual(meaning(NATS, "three")[1], {("open", "three"): 1})


class BesideAnotherWay(unittest.TestCase):

    def test_programs_by_chance(self):
        luck = chance(21)
        ended = 0
        for program in programs(luck, 150, wide=40, deep=10, wild=0.1):
            for f, kind, _ in program[1]:
                if not is_shown(kind):
                    with self.assertRaises(NotShown):
                        meaning(program, f)
                    continue
                try:
                    worth, counts = reckoned(program, f, 700)
                except Endless:
                    with self.assertRaises(TooLong):
                        meaning(program, f, most=700)
                    continue
                ended += 1
                self.assertEqual(meaning(program, f, most=sum(counts.values())), (worth, counts))
                with self.assertRaises(TooLong):
                    meaning(program, f, most=sum(counts.values()) - 1)
                self.assertIsNone(road_of(program, f))
        self.assertGreater(ended, 150)


class Roads(unittest.TestCase):

    PROGRAM = read_program(DATA + """
    (@ a n (! (^ x n (- @b x)) (# s @c)))
    (@ b n (? @d (z : @a) (s m : (! (^ y n (- y @b)) m))))
    (@ c n (/ (& @d @e) x y (+ x v w (- v (- w y)))))
    (@ d n (# z))
    (@ e n (# s @c))
    (@ g n (? (# z) (z : @g) (s m : (- m @h))))
    (@ h n (? (? @h (z : (# no)) (s m : (- m (# no)))) (no : (# z)) (yes : @d)))
    (@ k (> n n) (^ x n (! @k x)))
    """)

    def test_there_and_not_there(self):
        let_by(self.PROGRAM)
        for f in "acehk":
            road = road_of(self.PROGRAM, f)
            self.assertIs(type(road), list)
            self.assertIs(is_road(self.PROGRAM, f, road), True, f)
        for f in "bdg":
            self.assertIsNone(road_of(self.PROGRAM, f), f)
        self.assertIn(road_of(program=self.PROGRAM, f="a"), (["a", "c", "e", "c"],))
        self.assertEqual(road_of(self.PROGRAM, "h"), ["h", "h"])
        self.assertEqual(road_of(self.PROGRAM, "k"), ["k", "k"])

    def test_known(self):
        rows = [("a", "acec"), ("c", "cec"), ("e", "ece"), ("h", "hh"), ("k", "kk")]
        for f, road in rows:
            self.assertIs(is_road(self.PROGRAM, f, list(road)), True)
            self.assertIs(is_road(program=self.PROGRAM, f=f, thing=list(road)), True)
        rows = [("a", "acece"), ("a", "ace"), ("a", "aceca"), ("a", "cec"), ("c", "acec"), ("a", "a"), ("a", ""), ("a", "aa"),
                ("a", "abd"), ("a", "aba"), ("g", "gg"), ("g", "ghh"), ("b", "bb"), ("h", "hhh"), ("d", "dd"), ("e", "cec"),
                ("a", "acc"), ("k", "k"), ("c", "cecec"), ("z", "zz"), ("h", "hd")]
        for f, road in rows:
            self.assertIs(is_road(self.PROGRAM, f, list(road)), False, (f, road))
        self.assertIs(is_road(self.PROGRAM, "a", tuple("acec")), False)
        self.assertIs(is_road(self.PROGRAM, "a", "acec"), False)

    def test_names_in_cases_are_left_out_of_account(self):
        rows = [("(? @f (z : (# z)) (s m : m))", True), ("(? (# z) (z : @f) (s m : m))", False),
                ("(? (? (# no) (no : @f) (yes : (# z))) (z : (# z)) (s m : m))", False),
                ("(? (? @f (z : (# no)) (s m : (- m (# no)))) (no : (# z)) (yes : (# z)))", True),
                ("(! (^ x n @f) (# z))".replace("@f", "(- x @f)"), True), ("(# s (# s @f))", True), ("(+ @f x y (- x y))", True),
                ("(+ (# z) x y (- x (- y @f)))", True), ("(- @f (# z))", True), ("(/ (& (# z) @f) x y (- x y))", True),
                ("(! (^ x n (? x (z : @f) (s m : m))) (# z))", False), ("(! @i @f)", True), ("(# z)", False)]
        for body, there in rows:
            program = read_program(DATA + f"(@ f n {body}) (@ i (> n n) (^ x n x))")
            let_by(program)
            self.assertEqual(road_of(program, "f"), ["f", "f"] if there else None, body)
            self.assertIs(is_road(program, "f", ["f", "f"]), there, body)

    def test_of_anything(self):
        for thing in odd_things():
            self.assertIs(is_road(self.PROGRAM, "a", thing), False)
            # Of what is no def nothing is a road.
            self.assertIs(is_road(self.PROGRAM, thing, ["a", "c", "e", "c"]), False)
            self.assertIs(is_road(self.PROGRAM, thing, [thing, thing]), False)
        luck = chance(5)
        road = ["a", "c", "e", "c"]
        for _ in range(1000):
            thing = spoilt(road, luck)
            self.assertIs(is_road(self.PROGRAM, "a", thing), thing == road)

    def test_lists_are_new(self):
        road_of(self.PROGRAM, "a").clear()
        self.assertEqual(road_of(self.PROGRAM, "a"), ["a", "c", "e", "c"])

    def test_where_there_is_one_there_is_no_end(self):
        found = 0
        for program in programs(chance(22), 120, wild=0.7) + [ENDLESS]:
            for f, kind, _ in program[1]:
                road = road_of(program, f)
                if road is not None:
                    self.assertIs(is_road(program, f, road), True)
                    found += 1
                    if is_shown(kind):
                        with self.assertRaises(TooLong):
                            meaning(program, f)
        self.assertGreater(found, 20)

    def test_sixteen_defs_in_a_row(self):
        names = "abcdefghijklmnop"
        rows = [f"(@ {name} n @{other})" for name, other in zip(names, names[1:] + "h")]
        program = read_program(DATA + "".join(rows))
        self.assertEqual(road_of(program, "a"), list(names + "h"))
        self.assertEqual(road_of(program, "k"), list(names[10:] + names[7:11]))
        self.assertIs(is_road(program, "a", list(names + "h")), True)
        self.assertIs(is_road(program, "a", list(names + "g")), False)
        # Each calls all others: whichever is told is one.
        rows = [f"(@ {name} n " + "".join([f"(- @{other} " for other in names if other > name]) + "(# z)"
                + ")" * (15 - at) + ")" for at, name in enumerate(names)]
        program = read_program(DATA + "".join(rows))
        for name in names:
            self.assertIsNone(road_of(program, name))


if __name__ == "__main__":
    unittest.main()
