"""Points 2, 3 and 28: oncewire.desk."""

import unittest

from oncewire.desk import Desk
from oncewire.errors import (BadName, BadProgram, NoDef, NoKind, NoMark, NoRow, NoRun, NoText, NotShown, OnceError, TooLong, Twice)
from oncewire.house import House
from oncewire.meaning import meaning
from oncewire.shapes import is_shown
from oncewire.texts import program_text, read_program, read_term, term_text

from chances import programs
from samples import chance, odd_things
from signs_oracle import first_bad
from worths import Endless, reckoned

DATAS = "(= n (z) (s n))\n(= b (no) (yes))\n(= l (nil) (cons n l))"
DEFS = """(@ add (> n (> n n)) (^ a n (^ c n (? a (z : c) (s m : (# s (! (! @add m) c)))))))
(@ two n (# s (# s (# z))))
(@ four n (! (! @add @two) @two))
(@ both (* n l) (& @four (# cons @two (# nil))))
(@ copies n (+ @two x y (- x y)))
(@ ever n (# s @ever))"""
PROGRAM = read_program(DATAS + "\n" + DEFS)


def desk(*rows):
    told = Desk()
    told.say("tell " + DATAS + "\n" + DEFS)
    for row in rows:
        told.say(row)
    return told


def state(one):
    """All that a desk tells."""
    told = [one.say("program"), one.say("runs")]
    for name in one.say("runs").split(" ") if told[1] != "none" else []:
        told += [one.say(word + " " + name) for word in ("worth", "steps", "counts")]
    return told


class OneDesk(unittest.TestCase):

    def refused(self, one, row, error, at=None):
        kept = state(one)
        with self.assertRaises(error) as told:
            one.say(row)
        self.assertIs(type(told.exception), error, row)
        if at is not None:
            self.assertEqual(told.exception.at, at, row)
        self.assertEqual(state(one), kept)


class Rows(OneDesk):

    def test_a_new_one(self):
        one = Desk()
        self.assertEqual((one.say("program"), one.say("runs")), ("", "none"))
        self.assertIsInstance(one.say(row="runs"), str)

    def test_each_row(self):
        one = Desk()
        answers = [
            ("tell " + DATAS, "ok"), ("program", DATAS), ("tell " + DEFS, "ok"), ("program", DATAS + "\n" + DEFS), ("begin a four", "ok"), ("tight b four", "ok"), ("runs", "a b"),
            ("worth a", "."), ("steps a", "0"), ("counts a", "none"), ("go a 0", "goes"), ("steps a", "0"), ("go a 1", "goes"), ("counts a", "open.four.1"), ("mark m", "ok"),
            ("go a 9999", "ended"), ("worth a", "(# s (# s (# s (# s (# z)))))"), ("go a 0", "ended"), ("counts a", "call.6 choice.s.2 choice.z.1 open.add.3 open.four.1 open.two.2"),
            ("steps a", "15"), ("back m", "ok"), ("steps a", "1"), ("worth a", "."), ("go a 14", "ended"), ("stop a", "ok"), ("runs", "b"), ("mean four", "(# s (# s (# s (# s (# z)))))"),
            ("begin a both", "ok"), ("go a 1", "goes"), ("worth a", "(& . (# cons . (# nil)))"), ("go a 99", "ended"),
            ("worth a", "(& (# s (# s (# s (# s (# z))))) (# cons (# s (# s (# z))) (# nil)))"), ("mark mm", "ok"), ("forget both", "ok"), ("begin c copies", "ok"), ("go c 99", "ended"),
            ("counts c", "copy.s.2 copy.z.1 drop.s.2 drop.z.1 open.copies.1 open.two.1"), ("begin e ever", "ok"), ("go e 3", "goes"), ("worth e", "(# s (# s (# s .)))"), ("runs", "a b c e"),
            ("back m", "ok"), ("runs", "a b"), ("back mm", "ok"), ("program", DATAS + "\n" + DEFS), ("stop a", "ok"), ("stop b", "ok"), ("runs", "none"),
        ]
        for row, answer in answers:
            self.assertEqual(one.say(row), answer, row)

    def test_tight(self):
        one = Desk()
        one.say("tell (= n (z) (s n)) (@ f n (! (^ x n (# s x)) (# z)))")
        one.say("begin a f")
        one.say("tight b f")
        self.assertEqual((one.say("go a 1"), one.say("go b 1"), one.say("go a 1")), ("goes", "ended", "ended"))
        self.assertEqual((one.say("counts a"), one.say("counts b")), ("call.1 open.f.1", "open.f.1"))
        self.assertEqual(one.say("worth a"), one.say("worth b"))

    def test_words_too_few_and_too_many(self):
        one = desk("begin a four", "mark m")
        rows = ["", " ", "stop ", "stop  ", "worth ", "mean ", "forget ", "mark ", "back ", "begin  four", "begin b ", "begin  ", "tight  ", "go  3", "go a ", "go  ", "tell", "forget", "forget two four", "begin", "begin b", "begin b four x", "tight b", "tight b four x", "stop", "stop a a", "mark", "mark b b", "back", "back m m",
                "go", "go a", "go a 1 1", "worth", "worth a a", "steps", "steps a a", "counts", "counts a a", "mean", "mean four four", "runs a", "program a", "batch", "batch a", "send a",
                "take_up b c", "data", "define", "log", "copy", "a", "Runs", "RUNS", "runs.", "net a", "say runs", "is_ended a", "program_now"]
        for row in rows:
            self.refused(one, row, NoRow)

    def test_blanks(self):
        one = desk("begin a four", "mark m")
        for row in ["forget two", "begin b four", "tight b four", "stop a", "mark mm", "back m", "go a 3", "worth a", "steps a", "counts a", "mean four", "runs", "program"]:
            words = row.split(" ")
            for other in [" " + row, row + " ", "  " + row, row + "  "] + ([row.replace(" ", "  ", 1), "  ".join(words)] if len(words) > 1 else []):
                self.refused(one, other, NoRow)
            for sign in ("\n", "\t", "\u00a0"):
                self.refused(one, words[0] + sign, NoRow)
                self.refused(one, sign + words[0], NoRow)
                if len(words) > 1:
                    self.refused(one, sign.join(words), NoRow)

    def test_words_are_any_signs(self):
        one = desk("begin a four")
        for word in ["B", "a\n", "\n", "\ta", "abcdefghi", "(a)", "1", "\u00e9", ".", "none", "@a"]:
            if word != "none":
                self.refused(one, "begin " + word + " four", BadName)
                self.refused(one, "tight " + word + " q", BadName)
                self.refused(one, "mark " + word, BadName)
            for row in ("stop ", "worth ", "steps ", "counts "):
                self.refused(one, row + word, NoRun)
            self.refused(one, "go " + word + " 5", NoRun)
            self.refused(one, "back " + word, NoMark)
            for row in ("forget ", "mean ", "begin b ", "tight b "):
                self.refused(one, row + word, NoDef)

    def test_no_row_of_anything(self):
        one = desk()
        for thing in odd_things():
            self.refused(one, thing, NoRow)


class Numbers(OneDesk):

    def test_figures(self):
        one = desk("begin a ever")
        done = 0
        for number in ["0", "1", "9", "10", "99", "100", "2000", "9999"]:
            self.assertEqual(one.say("go a " + number), "goes")
            done += int(number)
            self.assertEqual(one.say("steps a"), str(done))

    def test_no_numbers(self):
        one = desk("begin a ever")
        for number in ["00", "01", "007", "0000", "00000", "10000", "99999", "-1", "+1", "1.0", "1_0", "x", "1x", "x1", "\u0661", "\u00b2", "1\n", "\n1", "0x1", "1e1", "''", "none", "."]:
            self.refused(one, "go a " + number, NoRow)
            # Ahead of the run that there isn't.
            self.refused(one, "go q " + number, NoRow)
        self.refused(one, "go q 1", NoRun)


class Tell(OneDesk):

    def test_of_nothing(self):
        for one in (Desk(), desk("begin a four")):
            for text in ["", " ", "  ", "\n", " \n \n"]:
                self.refused(one, "tell " + text, NoText, len(text))

    def test_without_the_blank(self):
        for one in (Desk(), desk()):
            for row in ["tell", "tell\n" + DATAS, "tell(= d (m))", "tell\t(= d (m))", " tell (= d (m))", "Tell (= d (m))", "tel (= d (m))"]:
                self.refused(one, row, NoRow)

    def test_data_kinds_alone(self):
        one = Desk()
        self.assertEqual(one.say("tell (=n(z)(s n))"), "ok")
        self.assertEqual(one.say("program"), "(= n (z) (s n))")
        self.assertEqual(one.say("tell \n (= b (no) (yes))\n\n(= l (nil) (cons n l)) \n"), "ok")
        self.assertEqual(one.say("program"), DATAS)

    def test_defs_alone(self):
        one = Desk()
        self.refused(one, "tell (@ two n (# z))", BadProgram)
        one.say("tell " + DATAS)
        self.assertEqual(one.say("tell (@ two n (# z))"), "ok")
        self.assertEqual(one.say("tell (@ two n (# s (# z))) (@ one n @two)"), "ok")
        self.assertEqual(one.say("program"), DATAS + "\n(@ two n (# s (# z)))\n(@ one n @two)")

    def test_both(self):
        one = Desk()
        self.assertEqual(one.say("tell " + DATAS + DEFS), "ok")
        self.assertEqual(one.say("program"), program_text(PROGRAM))

    def test_all_or_none(self):
        one = desk("begin a four", "go a 3")
        self.refused(one, "tell (= v (va)) (@ f v (# vb))", NoKind)
        self.refused(one, "tell (= v (va)) (@ f v (# va)) (@ f v (# va))", BadProgram)
        self.refused(one, "tell (= n (va)) (@ f n (# z))", BadProgram)
        self.refused(Desk(), "tell (= v (va)) (@ f v (# vb))", NoKind)
        self.assertEqual(one.say("tell (= v (va)) (@ f v (# va))"), "ok")
        self.assertEqual(one.say("mean f"), "(# va)")

    def test_each_as_a_houses_deed(self):
        one = desk()
        for text in ["(= n (z) (s n))", "(= v (v q))", "(= v (v) (v))", "(= p (pa)) (= q (qa)) (= r (ra)) (= v (va))", "(= v (va) (vb) (vc) (vd) (ve) (vf) (vg))", "(= v (va n n n n n))",
                     "(= v (va)) (= v (vb))", "(@ f n (# z)) (@ f n (# z))", "(@ f n (# s a a a a a))", "(@ f n (/ x x x y))", "(@ f (> n (> n (> n (> n (> n (> n n)))))) x)",
                     "(@ f n " + "(# s " * 30 + "(# z)" + ")" * 30 + ")", "(@ f n (? x (s m m : y)))", "(@ f n (? x (a : y) (a : y) (a : y) (a : y) (a : y) (a : y) (a : y)))",
                     " ".join(f"(@ {'abcdefghijklmnopq'[at] * 2} n (# z))" for at in range(11))]:
            self.refused(one, "tell " + text, BadProgram)
        for text, why in [("(@ f q (# z))", "data"), ("(@ f n x)", "name"), ("(@ f n @q)", "def"), ("(@ f n (# q))", "maker"), ("(@ f n (^ x q x))", "data"), ("(@ two b (# no))", "kind"),
                          ("(@ f (> n n) (^ x n (# z)))", "unused")]:
            with self.assertRaises(NoKind) as told:
                one.say("tell " + text)
            self.assertEqual(told.exception.why, why)

    def test_no_text_at_its_own_signs(self):
        one = desk("begin a four")
        good = "(= v (va) (vb n v))(@ f (> v n) (^ x v (? x (va : (# z)) (vb a w : (- w a)))))"
        self.refused(one, "tell " + good[:-1], NoText, len(good) - 1)
        rows = [("x", 0), ("()", 1), ("(", 1), ("(=", 2), ("(= )", 3), ("(= v)", 4), ("(= v (", 6), ("(= v ()", 6), ("(= v (va)", 9), ("(= v (va)) x", 11), ("(= v (va)) (", 12),
                ("(= v (va)) (@", 13), ("(@ f n (# z)) (=", 15), ("(@ f n (# z)) (= v (va))", 15), ("(@ f n", 6), ("(@ f n )", 7), ("(> n n)", 1), ("(^ x n x)", 1), ("@two", 0),
                ("(@ f n (# z)) )", 14), ("(@ abcdefghi n (# z))", 11), ("(@ F n (# z))", 3), ("(@ f n (# z)", 12), (" \n(= v\t(va))", 6), ("((= v (va)))", 1), ("n", 0), ("\u00e9", 0),
                ("(@ f n (? x))", 11), ("(@ f n (# z))tell", 13)]
        for text, at in rows:
            self.refused(one, "tell " + text, NoText, at)
            self.refused(Desk(), "tell " + text, NoText, at)

    def test_no_text_goes_ahead(self):
        one = desk()
        # Both that the data kinds are there and that a sign can't be.
        self.refused(one, "tell " + DATAS + " x", NoText, len(DATAS) + 1)
        self.refused(one, "tell (@ f n @q) (", NoText, 12)
        # A program's own faults are no matter of its signs.
        self.refused(one, "tell (@ f q x) (@ f q x)", BadProgram)

    def test_texts_by_chance(self):
        luck = chance(121)
        for program in programs(luck, 20, wild=0.3):
            text = program_text(program)
            one = Desk()
            self.assertEqual(one.say("tell " + text), "ok")
            self.assertEqual(one.say("program"), text)
            datas, defs = program_text((program[0], ())), program_text(((), program[1]))
            two = Desk()
            self.assertEqual((two.say("tell " + datas), two.say("tell " + defs)), ("ok", "ok"))
            self.assertEqual(two.say("program"), text)
            for _ in range(10):
                at = luck.randrange(len(text))
                bent = text[:at] + luck.choice("()=@abc :#x>?") + text[at + luck.randrange(2):]
                # A text that begins with a data kind is read as a program's is.
                try:
                    read_program(bent)
                except NoText as wanted:
                    if wanted.at < len(bent):
                        self.refused(Desk(), "tell " + bent, NoText, wanted.at)


class Signs(OneDesk):
    """The numbers of NoText beside another way to find them, that of a row that may begin with a def, too."""

    def test_beside_another_way(self):
        luck = chance(122)
        texts = ["(@ f (* n n) (/ (& @g (# z)) x y (& (- x y) (+ @g a c (& a c)))))(@ g n (? @h (z : (# z)) (s m : m)))", "(= n (z) (s n))(@ f n (! (^ x n x) (# z)))",
                 "(= n(z)(s n))(= b(no))", "(@ f n @f)"]
        refused = 0
        for _ in range(900):
            text = luck.choice(texts)
            for _ in range(luck.randrange(3)):
                at = luck.randrange(len(text))
                text = text[:at] + luck.choice("()@abcdefghi :#x>?=^-+/*&!\n") + text[at + luck.randrange(2):]
            text = text[:luck.choice([len(text), luck.randrange(len(text) + 1)])]
            at, whole = first_bad(text, "R")
            if at is None and whole:
                # Its signs are good: what comes then is a house's.
                try:
                    Desk().say("tell " + text)
                except (BadProgram, NoKind):
                    pass
                continue
            refused += 1
            self.refused(Desk(), "tell " + text, NoText, len(text) if at is None else at)
        self.assertGreater(refused, 300)


class Refused(OneDesk):

    def test_as_the_stages_refuse(self):
        one = desk("begin a four", "go a 3", "mark m")
        for row, error in [
            ("forget q", NoDef), ("forget n", NoDef), ("forget two", NoKind), ("begin a four", Twice), ("begin a q", Twice), ("begin a add", Twice), ("begin b q", NoDef), ("begin b add", NotShown),
            ("tight a four", Twice), ("tight b q", NoDef), ("tight b add", NotShown), ("begin A q", BadName), ("tight A q", BadName), ("stop b", NoRun), ("mark m", Twice), ("mark M", BadName),
            ("back mm", NoMark), ("back a", NoMark), ("go b 5", NoRun), ("go m 5", NoRun), ("worth b", NoRun), ("steps b", NoRun), ("counts b", NoRun), ("mean q", NoDef), ("mean add", NotShown),
            ("mean ever", TooLong), ("mean n", NoDef),
        ]:
            self.refused(one, row, error)
        for row, error in [("forget q", NoDef), ("begin a q", NoDef), ("mean q", NoDef), ("stop a", NoRun), ("back m", NoMark), ("begin A q", BadName)]:
            self.refused(Desk(), row, error)

    def test_mean_most(self):
        one = Desk()
        one.say("tell (= n (z) (s n)) (@ f n @f) (@ k n (- (# s (# z)) (# z)))")
        self.assertEqual(one.say("mean k"), "(# z)")
        self.refused(one, "mean f", TooLong)

    def test_what_is_refused_changes_nothing(self):
        """Rows by chance, the good ones said to another desk too."""
        luck = chance(123)
        refused = done = 0
        for _ in range(25):
            one, plain = Desk(), Desk()
            for _ in range(60):
                name, f = luck.choice(["a", "b", "c", "D", "m"]), luck.choice(["two", "four", "both", "add", "copies", "ever", "q"])
                row = luck.choice([
                    "tell " + luck.choice([DATAS, DEFS, DATAS + DEFS, "(@ two n (# z))", "(@ two b (# no))", "(= v (va))", "", "(= v", "(@ f q x)"]), "tell", "forget " + f, "begin " + name + " " + f,
                    "tight " + name + " " + f, "stop " + name, "mark " + name, "back " + name, "go " + name + " " + luck.choice(["0", "1", "3", "7", "40", "05", "12345", "x"]),
                    "worth " + name, "steps " + name, "counts " + name, "mean " + f, "runs", "program", "runs ", "q", "go " + name,
                ])
                try:
                    answer = one.say(row)
                    done += 1
                    self.assertEqual(plain.say(row), answer)
                    self.assertIs(type(answer), str)
                except OnceError as error:
                    refused += 1
                    with self.assertRaises(type(error)):
                        one.say(row)
                self.assertEqual(state(one), state(plain))
        self.assertGreater(min(done, refused), 300)


class BesideAHouse(OneDesk):

    def test_runs_by_chance(self):
        luck = chance(124)
        ended = 0
        for program in programs(luck, 30, wide=50, deep=10):
            one, house = Desk(), House()
            one.say("tell " + program_text(program))
            house.data(program[0])
            house.define(program[1])
            for f in [f for f, kind, _ in program[1] if is_shown(kind)]:
                try:
                    worth, counts = reckoned(program, f, 300)
                except Endless:
                    continue
                self.assertEqual(one.say("mean " + f), term_text(worth))
                for word in ("begin", "tight"):
                    name = "r" + f
                    self.assertEqual(one.say(f"{word} {name} {f}"), "ok")
                    house.begin(name, f, word == "tight")
                    while True:
                        most = luck.randrange(30)
                        answer = one.say(f"go {name} {most}")
                        self.assertEqual(answer, "ended" if house.go(name, (), most) else "goes")
                        self.assertEqual(one.say("steps " + name), str(house.steps_now(name)))
                        told = one.say("counts " + name)
                        rows = {} if told == "none" else {tuple(row.split(".")[:-1]): int(row.split(".")[-1]) for row in told.split(" ")}
                        self.assertEqual(rows, house.counts_now(name))
                        self.assertEqual(list(rows), sorted(rows))
                        text = one.say("worth " + name)
                        if answer == "ended":
                            self.assertEqual(text, term_text(worth))
                            self.assertEqual(read_term(text) if text.count("#") < 30 else worth, worth)
                            break
                        self.assertEqual(house.worth_now(name) is None, text == ".")
                    if word == "begin":
                        self.assertEqual(rows, counts)
                    one.say("stop " + name)
                    house.stop(name)
                    ended += 1
        self.assertGreater(ended, 60)

    def test_worths_far_within(self):
        one = desk("begin a ever", "go a 60")
        self.assertEqual(one.say("worth a"), "(# s " * 60 + "." + ")" * 60)
        one.say("go a 2000")
        self.assertEqual(one.say("worth a"), "(# s " * 2060 + "." + ")" * 2060)

    def test_meaning(self):
        one = desk()
        for f in ("two", "four", "both", "copies"):
            self.assertEqual(one.say("mean " + f), term_text(meaning(PROGRAM, f)[0]))


if __name__ == "__main__":
    unittest.main()
