"""Points 2, 3, 26 and 27: oncewire.house."""

import copy
import unittest

from oncewire.back import shown
from oncewire.books import Book
from oncewire.errors import (BadDeed, BadName, BadParcel, BadProgram, NoDef, NoKind, NoMark, NoRun, NotShown, OnceError, Twice)
from oncewire.house import House
from oncewire.lines import line_of, net_of
from oncewire.meaning import meaning
from oncewire.nets import Net
from oncewire.runs import Run, started
from oncewire.shapes import is_kind, is_name, is_shown
from oncewire.texts import read_program

from chances import DATAS, programs
from samples import chance, odd_things, spoilt
from worths import Endless, reckoned

PROGRAM = read_program("""
(= n (z) (s n)) (= b (no) (yes)) (= l (nil) (cons n l))
(@ add (> n (> n n)) (^ a n (^ c n (? a (z : c) (s m : (# s (! (! @add m) c)))))))
(@ two n (# s (# s (# z))))
(@ four n (! (! @add @two) @two))
(@ both (* n l) (& @four (# cons @two (# nil))))
(@ ever n (# s @ever))
""")
MORE, DEFS = PROGRAM
FOUR = meaning(PROGRAM, "four")


def house(program=PROGRAM):
    told = House()
    told.data(program[0])
    told.define(program[1])
    return told


def parcel_of_two():
    one = house()
    one.begin("a", "two")
    return one.send("a")


def state(one):
    """All that a house tells, but its log."""
    names = one.runs_now()
    rows = []
    for name in names:
        net = one.net_now(name)
        rows.append((name, one.worth_now(name), one.is_ended_now(name), one.steps_now(name), one.counts_now(name),
                     {n: (net.symbol_of(n), [net.end_of((n, place)) for place in range(net.lower_of(n) + 1)]) for n in net.numbers()}))
    return one.program_now(), rows


def marked(one):
    """What a house tells at each of some marks."""
    told = []
    for name in ("m", "mm", "other"):
        other = one.copy()
        try:
            other.back(name)
            told.append(state(other))
        except NoMark:
            told.append(None)
    return told


class OneHouse(unittest.TestCase):

    def refused(self, one, error, word, *things, entries=None):
        """A deed that is refused: nothing changes but the log."""
        kept, marks, log = state(one), marked(one), one.log_now()
        with self.assertRaises(error) as told:
            getattr(one, word)(*things)
        self.assertIs(type(told.exception), error)
        self.assertEqual(state(one), kept)
        self.assertEqual(marked(one), marks)
        self.assertEqual(one.log_now(), log + (entries or [word, "refused"]))
        return told.exception

    def done(self, one, word, *things):
        """A deed that is done; what it told."""
        log = one.log_now()
        told = getattr(one, word)(*things)
        self.assertEqual(one.log_now(), log + [word, "done"])
        return told


class Programs(OneHouse):

    def test_of_nothing(self):
        one = House()
        self.assertEqual(one.program_now(), ((), ()))
        self.assertEqual((one.runs_now(), one.log_now()), ([], []))

    def test_data(self):
        one = House()
        self.assertIsNone(self.done(one, "data", MORE[:2]))
        self.assertEqual(one.program_now(), (MORE[:2], ()))
        # The fields may be of data kinds that there were.
        self.assertIsNone(one.data(datas=MORE[2:]))
        self.assertEqual(one.program_now(), (MORE, ()))
        self.done(one, "data", ())
        self.assertEqual(one.program_now(), (MORE, ()))
        self.done(one, "data", (("p", (("pa", ()),)), ("q", (("qa", ("p", "q", "n")),)), ("r", (("ra", ()),))))
        self.assertEqual(len(one.program_now()[0]), 6)
        self.done(one, "data", ())
        self.refused(one, BadProgram, "data", (("v", (("va", ()),)),))

    def test_data_refused(self):
        empty, one = House(), house()
        for thing in [(), [], (("d", ()),), (("d", (("m", ("q",)),)),), (("d", (("m", ()),)),) * 2, (("d", (("m", ()), ("m", ()))),), [("d", (("m", ()),))],
                      ("d", (("m", ()),)), (("d", [("m", ())]),), (("d", (("m", []),)),), (("d", (("m", ("d",) * 5),)),), tuple((x, ((x, ()),)) for x in "abcdefg"),
                      (("d", tuple((x, ()) for x in "abcdefg")),), (("D", (("m", ()),)),)]:
            self.refused(empty, BadProgram, "data", thing)
            if thing != ():
                self.refused(one, BadProgram, "data", thing)
        for thing in odd_things():
            self.refused(empty, BadProgram, "data", thing)
            if thing != ():
                self.refused(one, BadProgram, "data", thing)
        # What there is already, handed in twice; a maker of another data kind's; more than six.
        self.refused(one, BadProgram, "data", MORE)
        self.refused(one, BadProgram, "data", MORE[1:2])
        self.refused(one, BadProgram, "data", (("d", (("z", ()),)),))
        self.refused(one, BadProgram, "data", tuple((x, ((x + x, ()),)) for x in "defg"))
        self.done(one, "data", tuple((x, ((x + x, ()),)) for x in "def"))

    def test_define(self):
        one = House()
        one.data(MORE)
        self.assertIsNone(self.done(one, "define", DEFS[:2]))
        self.assertIsNone(one.define(defs=DEFS[2:]))
        self.assertEqual(one.program_now(), PROGRAM)
        self.done(one, "define", ())
        self.assertEqual(one.program_now(), PROGRAM)
        # In the place of the one of its name; the others behind, in their order.
        rows = (("new", "b", ("#", "no", ())), ("two", "n", ("#", "z", ())), ("after", "n", ("@", "two")), ("add", DEFS[0][1], DEFS[0][2]))
        self.done(one, "define", rows)
        self.assertEqual(one.program_now(), (MORE, (DEFS[0], rows[1], DEFS[2], DEFS[3], DEFS[4], rows[0], rows[2])))

    def test_define_refused(self):
        empty, one = House(), house()
        self.refused(empty, BadProgram, "define", ())
        self.refused(empty, BadProgram, "define", (("f", "n", ("#", "z", ())),))
        good = ("f", "n", ("#", "z", ()))
        for thing in [(good, good), [good], good, (good[:2],), (("F",) + good[1:],), (("f", "N", ("#", "z", ())),), (("f", "n", ("#", "z", [])),), (list(good),),
                      tuple(("d" + "abcdefghijklmnopq"[at],) + good[1:] for at in range(17)), ((good + good),)]:
            for other in (empty, one):
                self.refused(other, BadProgram, "define", thing)
        for thing in odd_things():
            if thing != ():
                self.refused(one, BadProgram, "define", thing)
            self.refused(empty, BadProgram, "define", thing)
        # Sixteen in all.
        rows = tuple(("d" + "abcdefghijkl"[at],) + good[1:] for at in range(12))
        self.refused(one, BadProgram, "define", rows)
        self.done(one, "define", rows[:11])
        self.refused(one, BadProgram, "define", rows[11:])
        self.done(one, "define", rows[:11] + DEFS[:1])

    def test_no_kind(self):
        one = house()
        for rows, wanted in [
            ((("f", "q", ("#", "z", ())),), ("f", 0, "data")),
            ((("f", "n", ("#", "no", ())),), ("f", 0, "kind")),
            ((("f", "n", ("#", "s", (("@", "g"),))),), ("f", 1, "def")),
            ((("f", "n", ("@", "g")), ("g", "b", ("#", "no", ()))), ("f", 0, "kind")),
            # A def in the place of another, by which a third one comes to have no kind.
            ((("two", "b", ("#", "no", ())),), ("four", 0, "kind")),
            ((("two", "b", ("#", "no", ())), ("zz", "n", "x")), ("four", 0, "kind")),
        ]:
            fault = self.refused(one, NoKind, "define", rows)
            if wanted[0] == "four":
                self.assertEqual((fault.name, fault.why), ("four", "kind"))
            else:
                self.assertEqual((fault.name, fault.at, fault.why), wanted)
        # No program goes ahead of no kind.
        self.refused(one, BadProgram, "define", (("f", "q", ("#", "z", ())), ("f", "n", ("#", "z", ()))))

    def test_forget(self):
        one = house()
        for f in ("two", "add", "four"):
            fault = self.refused(one, NoKind, "forget", f)
            self.assertEqual(fault.why, "def")
        self.assertIsNone(self.done(one, "forget", "both"))
        # Its own use of itself is gone with it.
        self.done(one, "forget", "ever")
        self.refused(one, NoDef, "forget", "both")
        self.assertIsNone(one.forget(f="four"))
        one.forget("add")
        one.forget("two")
        self.assertEqual(one.program_now(), (MORE, ()))
        for thing in odd_things() + ["n", "two", ("two",)]:
            self.refused(one, NoDef, "forget", thing)
        for thing in odd_things():
            self.refused(House(), NoDef, "forget", thing)
        fault = None
        try:
            house().forget("two")
        except NoKind as told:
            fault = (told.name, told.at, told.why)
        self.assertEqual(fault, ("four", 3, "def"))


class OfRuns(OneHouse):

    def test_begin(self):
        one = house()
        for name, things in (("a", ("four",)), ("b", ("four", True)), ("two", ("two", False))):
            self.assertIsNone(self.done(one, "begin", name, *things))
            self.assertEqual((one.worth_now(name), one.is_ended_now(name), one.steps_now(name), one.counts_now(name)), (None, False, 0, {}))
            self.assertEqual(one.net_now(name), started(Book(PROGRAM), things[0]))
        self.assertEqual(one.runs_now(), ["a", "b", "two"])
        self.assertIsNone(one.begin(name="c", f="both", tight=True))

    def test_begin_refused_in_their_order(self):
        one = house()
        one.begin("a", "four")
        for thing in odd_things():
            if not is_name(thing):
                self.refused(one, BadName, "begin", thing, "four")
                self.refused(one, BadName, "begin", thing, "nothing")
            self.refused(one, NoDef, "begin", "b", thing)
            self.refused(one, Twice, "begin", "a", thing)
        self.refused(one, Twice, "begin", "a", "four", True)
        self.refused(one, NoDef, "begin", "b", "n")
        self.refused(one, NotShown, "begin", "b", "add")
        self.refused(one, Twice, "begin", "a", "add")
        self.refused(House(), NoDef, "begin", "b", "four")
        self.refused(House(), BadName, "begin", "B", "four")

    def test_go(self):
        for tight in (False, True):
            one, run = house(), Run(Book(PROGRAM, tight=tight), "both")
            one.begin("a", "both", tight)
            for picks, most in (((), 2), ([5, 3, -1], 4), ((7,), 1), ([9], 0), ([-8] * 3, 5), ((), 100)):
                kept = copy.deepcopy(picks)
                self.assertIs(self.done(one, "go", "a", picks, most), run.go(picks, most=most))
                self.assertEqual(picks, kept)
                self.assertEqual((one.worth_now("a"), one.steps_now("a"), one.counts_now("a"), one.net_now("a")),
                                 (shown(run.net_now()), run.steps(), run.counts(), run.net_now()))
            self.assertIs(one.is_ended_now("a"), True)
            self.assertIs(one.go("a"), True)
            self.assertEqual(one.worth_now("a"), meaning(PROGRAM, "both")[0])
        one.begin("e", "ever")
        self.assertIs(one.go(name="e"), False)
        # A hundred steps where none are told.
        self.assertEqual(one.steps_now("e"), 100)
        self.assertIs(one.go(name="e", picks=[1], most=7), False)
        self.assertEqual(one.counts_now("e"), {("open", "ever"): 107})

    def test_stop(self):
        one = house()
        one.begin("a", "four")
        one.begin("b", "two")
        self.assertIsNone(self.done(one, "stop", "a"))
        self.assertEqual(one.runs_now(), ["b"])
        self.refused(one, NoRun, "stop", "a")
        one.begin("a", "two")
        self.assertEqual(one.runs_now(), ["a", "b"])
        self.assertIsNone(one.stop(name="b"))

    def test_no_run_of_anything(self):
        one = house()
        one.begin("a", "four")
        for thing in odd_things() + ["b", "four", ("a",), ["a"]]:
            if thing == "a":
                continue
            for word in ("go", "stop", "send"):
                self.refused(one, NoRun, word, thing)
            self.refused(one, NoRun, "go", thing, [1, 2], 5)
            log = one.log_now()
            for word in ("worth_now", "is_ended_now", "steps_now", "counts_now", "net_now"):
                with self.assertRaises(NoRun):
                    getattr(one, word)(thing)
            # What is asked alone is no deed.
            self.assertEqual(one.log_now(), log)

    def test_goes_on_by_the_program_as_it_stood(self):
        one = house()
        one.begin("a", "four")
        one.begin("b", "four", True)
        one.go("a", (), 2)
        one.define((("two", "n", ("#", "z", ())), ("add", DEFS[0][1], ("^", "a", "n", ("^", "c", "n", ("-", "a", "c"))))))
        one.begin("c", "four")
        one.forget("both")
        one.forget("four")
        for name in "abc":
            self.assertIs(one.go(name, [3, 1, 2]), True)
        self.assertEqual(one.worth_now("a"), FOUR[0])
        self.assertEqual(one.counts_now("a"), FOUR[1])
        self.assertEqual(one.worth_now("b"), FOUR[0])
        self.assertEqual(one.worth_now("c"), ("#", "z", ()))
        self.refused(one, NoDef, "begin", "d", "four")


class Parcels(OneHouse):

    def test_sent(self):
        for tight in (False, True):
            one = house()
            one.begin("a", "four", tight)
            book = Book(PROGRAM, tight=tight)
            run = Run(book, "four")
            for most in (0, 3, 4, 50):
                run.go([2, 1], most=most)
                one.go("a", [2, 1], most)
                told = self.done(one, "send", "a")
                self.assertEqual(told, (PROGRAM, "four", tight, line_of(book, run.net_now()), tuple(sorted(run.counts().items()))))
                self.assertIs(type(told), tuple)
                self.assertIs(type(told[4]), tuple)
                self.assertEqual(one.send(name="a"), told)
            # What is sent stays.
            self.assertEqual(one.runs_now(), ["a"])

    def test_taken_up_in_a_house_that_knows_no_program(self):
        for tight in (False, True):
            for most in range(0, 12):
                one, other, third = house(), House(), House()
                one.begin("a", "four", tight)
                one.go("a", [5, 3, 4], most)
                parcel = one.send("a")
                self.assertIsNone(self.done(other, "take_up", "b", parcel))
                self.assertEqual(other.program_now(), ((), ()))
                self.assertEqual(other.runs_now(), ["b"])
                self.assertEqual((other.steps_now("b"), other.counts_now("b")), (one.steps_now("a"), one.counts_now("a")))
                self.assertEqual(other.worth_now("b"), one.worth_now("a"))
                self.assertEqual(other.net_now("b"), net_of(Book(PROGRAM, tight=tight), parcel[3]))
                self.assertEqual(other.send("b"), parcel)
                other.go("b", [1, 1], 3)
                # Sent once more, the counts of both houses go along.
                self.assertIsNone(third.take_up(name="c", parcel=other.send("b")))
                self.assertEqual(third.counts_now("c"), other.counts_now("b"))
                self.assertIs(third.go("c"), True)
                run = Run(Book(PROGRAM, tight=tight), "four")
                run.go()
                self.assertEqual((third.steps_now("c"), third.counts_now("c")), (run.steps(), run.counts()))
                self.assertEqual(third.worth_now("c"), FOUR[0])
                self.assertIs(third.is_ended_now("c"), True)
                self.assertEqual(one.steps_now("a"), most if most < run.steps() else run.steps())

    def test_refused_in_their_order(self):
        one = house()
        one.begin("a", "four")
        parcel = one.send("a")
        for thing in odd_things():
            if not is_name(thing):
                self.refused(one, BadName, "take_up", thing, parcel)
                self.refused(one, BadName, "take_up", thing, None)
            self.refused(one, BadParcel, "take_up", "b", thing)
            self.refused(House(), BadParcel, "take_up", "b", thing)
        self.refused(one, Twice, "take_up", "a", parcel)
        self.refused(one, Twice, "take_up", "a", None)
        self.refused(House(), BadName, "take_up", "B", None)

    def bent(self, one, parcel, *rows):
        for row in rows:
            self.refused(one, BadParcel, "take_up", "b", row)

    def test_bent_at_each_place(self):
        one = house()
        one.begin("a", "four")
        one.go("a", (), 5)
        parcel = one.send("a")
        program, f, tight, line, counts = parcel
        other = House()
        self.bent(other, parcel, parcel[:4], parcel + (1,), list(parcel), (parcel,), ())
        # Its program.
        bad = [(MORE, ()), (MORE, DEFS[1:]), (MORE[:1], DEFS), ((), ()), (MORE, DEFS + (("f", "n", "x"),)), (MORE, DEFS + DEFS), (MORE, DEFS + (("f", "q", ("#", "z", ())),)),
               list(program), program[:1], None]
        self.bent(other, parcel, *[(thing, f, tight, line, counts) for thing in bad])
        # Its def.
        self.bent(other, parcel, *[(program, thing, tight, line, counts) for thing in ("add", "q", "both", None, ("four",), ["four"], 0, "")])
        # Tight.
        self.bent(other, parcel, *[(program, f, thing, line, counts) for thing in (0, 1, None, "tight", (), [])])
        # Its line, also one whose net is none of a run's.
        book = Book(PROGRAM)
        for at in range(len(line)):
            for number in (line[at] + 1, line[at] - 1, -1, None, bool(line[at])):
                row = line[:at] + (number,) + line[at + 1:]
                try:
                    net = net_of(book, row)
                except OnceError:
                    self.bent(other, parcel, (program, f, tight, row, counts))
                    continue
                if [net.symbol_of(n)[1:] for n in net.numbers() if net.symbol_of(n)[0] == "out"] != [("n",)]:
                    self.bent(other, parcel, (program, f, tight, row, counts))
        self.bent(other, parcel, *[(program, f, tight, thing, counts) for thing in ((), (0,), list(line), line[:-1], line + (0,), None, "line")])
        self.assertEqual(other.runs_now(), [])
        # Another def of the same kind is none that can be told from it.
        other.take_up("b", (program, "two", tight, line, counts))
        self.assertEqual(other.send("b"), (program, "two", tight, line, counts))

    def test_nets_that_do_not_fit(self):
        book = Book(PROGRAM)

        def line(rows, ties):
            net = Net()
            for row in rows:
                net.put(row, book.lower(row))
            for one, other in ties:
                net.tie(one, other)
            return line_of(book, net)

        def parcel(rows, ties, f="two"):
            return (PROGRAM, f, False, line(rows, ties), ())

        good = parcel([("out", "n"), ("make", "z")], [((0, 0), (1, 0))])
        one = House()
        one.take_up("a", good)
        self.assertIs(one.is_ended_now("a"), True)
        self.assertIs(one.go("a"), True)
        out, z, s, drop = ("out", "n"), ("make", "z"), ("make", "s"), ("drop", "n")
        bad = [
            parcel([], []), parcel([z, drop], [((0, 0), (1, 0))]), parcel([out, ("make", "nil")], [((0, 0), (1, 0))]), parcel([out, out], [((0, 0), (1, 0))]),
            parcel([out, z, out, z], [((0, 0), (1, 0)), ((2, 0), (3, 0))]), parcel([out, z], [((0, 0), (1, 0))], "both"), parcel([out, drop, z, z], [((0, 0), (1, 0)), ((2, 0), (3, 0))]),
            parcel([out, z, ("drop", "l"), z], [((0, 0), (1, 0)), ((2, 0), (3, 0))]), parcel([out, s, z], [((0, 0), (1, 1)), ((1, 0), (2, 0))]),
            parcel([("out", ("*", "n", "l")), ("pair", "n", "l"), z, z], [((0, 0), (1, 0)), ((1, 1), (2, 0)), ((1, 2), (3, 0))], "both"),
        ]
        for row in bad:
            self.refused(one, BadParcel, "take_up", "b", row)
        # Where all fits and just one is out it is taken up, whether a run comes to it or not.
        one.take_up("b", parcel([z, drop, out, s, z], [((0, 0), (1, 0)), ((2, 0), (3, 0)), ((3, 1), (4, 0))]))
        self.assertIs(one.is_ended_now("b"), False)
        self.assertEqual(one.worth_now("b"), ("#", "s", (("#", "z", ()),)))
        self.assertIs(one.go("b"), True)
        self.assertIs(one.is_ended_now("b"), True)
        self.assertEqual(one.counts_now("b"), {("drop", "z"): 1})
        # No move left, but an agent too many: not ended.
        one.take_up("c", parcel([out, z, s], [((0, 0), (1, 0)), ((2, 0), (2, 1))]))
        self.assertIs(one.go("c"), True)
        self.assertIs(one.is_ended_now("c"), False)

    def test_counts(self):
        one = house()
        one.begin("a", "four")
        program, f, tight, line, _ = one.send("a")
        good = [(), ((("call",), 1),), ((("call",), 10 ** 30), (("part",), 1)), ((("choice", "cons"), 2), (("choice", "no"), 1), (("copy", "z"), 9), (("drop", "nil"), 4), (("open", "ever"), 3))]
        for at, row in enumerate(good):
            other = House()
            other.take_up("b", (program, f, tight, line, row))
            self.assertEqual(other.counts_now("b"), dict(row))
            self.assertEqual(other.steps_now("b"), sum(many for _, many in row))
            self.assertEqual(other.send("b")[4], row)
            other.go("b")
            told = dict(FOUR[1])
            for name, many in row:
                told[name] = told.get(name, 0) + many
            self.assertEqual(other.counts_now("b"), told)
        call, part, opened = (("call",), 1), (("part",), 2), (("open", "two"), 3)
        bad = [
            [], [call], {("call",): 1}, None, "call", (call, call), (part, call), (call, part, opened), ((("call",), 0),), ((("call",), -1),), ((("call",), True),), ((("call",), "1"),),
            ((("call",), None),), ((("call",),),), ((("call",), 1, 1),), (("call", 1),), ((["call"], 1),), ((("calls",), 1),), ((("call", "z"), 1),), ((("open",), 1),),
            ((("open", "q"), 1),), ((("open", "z"), 1),), ((("choice", "two"), 1),), ((("choice", "n"), 1),), ((("copy", "n"), 1),), ((("drop", "q"), 1),), ((("drop", 0), 1),),
            ((("make", "z"), 1),), ((("open", "two", "two"), 1),), (((), 1),), ((None, 1),), (([], 1),), (({}, 1),), ((("open", ["two"]), 1),), ((("open", {}), 1),), (call, None), ([("call",), 1],),
        ]
        for row in bad:
            self.refused(one, BadParcel, "take_up", "b", (program, f, tight, line, row))
        for thing in odd_things():
            if thing != ():
                self.refused(one, BadParcel, "take_up", "b", (program, f, tight, line, thing))
            self.refused(one, BadParcel, "take_up", "b", (program, f, tight, line, (thing,)))
            self.refused(one, BadParcel, "take_up", "b", (program, f, tight, line, ((thing, 1),)))
            self.refused(one, BadParcel, "take_up", "b", (program, f, tight, thing, ()))
            self.refused(one, BadParcel, "take_up", "b", (program, thing, tight, line, ()))
            self.refused(one, BadParcel, "take_up", "b", (thing, f, tight, line, ()))

    def test_spoilt(self):
        luck = chance(111)
        one = house()
        one.begin("a", "both", True)
        one.go("a", [1, 2, 3], 4)
        parcel = one.send("a")
        refused = 0
        for _ in range(600):
            thing = spoilt(parcel, luck)
            other = one.copy()
            try:
                other.take_up("b", thing)
            except BadParcel:
                refused += 1
                self.assertEqual(state(other), state(one))
            else:
                self.assertEqual(other.send("b"), thing)
        self.assertGreater(refused, 400)


class Marks(OneHouse):

    def test_back_again_and_again(self):
        one = house()
        one.begin("a", "four")
        one.go("a", (), 3)
        self.assertIsNone(self.done(one, "mark", "m"))
        kept = state(one)
        for most in (1, 4, 100):
            one.go("a", [9, 9], most)
            one.begin("b", "both")
            one.define((("two", "n", ("#", "z", ())),))
            one.data((("q", (("qa", ()),)),))
            self.assertNotEqual(state(one), kept)
            self.assertIsNone(self.done(one, "back", "m"))
            self.assertEqual(state(one), kept)
        one.stop("a")
        self.assertIsNone(one.back(name="m"))
        self.assertEqual(state(one), kept)
        # Marks stay, also those that were laid behind it.
        one.go("a", (), 2)
        self.assertIsNone(one.mark(name="mm"))
        later = state(one)
        one.back("m")
        one.back("mm")
        self.assertEqual(state(one), later)
        one.go("a", (), 100)
        one.back("m")
        self.assertEqual(state(one), kept)
        one.go("a")
        self.assertEqual((one.worth_now("a"), one.counts_now("a")), FOUR)

    def test_of_nothing(self):
        one = House()
        one.mark("m")
        one.data(MORE)
        one.back("m")
        self.assertEqual(one.program_now(), ((), ()))
        self.refused(one, BadProgram, "data", ())

    def test_refused(self):
        one = house()
        one.mark("m")
        one.begin("a", "four")
        self.done(one, "mark", "a")
        for thing in odd_things():
            if not is_name(thing):
                self.refused(one, BadName, "mark", thing)
            if thing != "a":
                self.refused(one, NoMark, "back", thing)
        self.refused(one, Twice, "mark", "m")
        self.refused(one, NoMark, "back", "mm")
        self.refused(House(), NoMark, "back", "m")
        # The log isn't gone back to.
        log = one.log_now()
        one.back("m")
        self.assertEqual(one.log_now(), log + ["back", "done"])


class Batches(OneHouse):

    def test_done(self):
        one = House()
        told = one.batch([
            ("data", MORE), ("define", DEFS), ("begin", "a", "four"), ("begin", "b", "four", True), ("go", "a"), ("go", "b", [1], 2), ("go", "b", (1,)), ("mark", "m"),
            ("send", "a"), ("stop", "b"), ("begin", "c", "two", False), ("take_up", "d", parcel_of_two()), ("back", "m"), ("forget", "both"),
        ])
        self.assertEqual(told, [None, None, None, None, True, False, True, None, one.send("a"), None, None, None, None, None])
        self.assertIs(type(told), list)
        self.assertEqual(one.runs_now(), ["a", "b"])
        self.assertEqual(one.log_now()[:-2], ["batch", "data", "done", "define", "done", "begin", "done", "begin", "done", "go", "done", "go", "done", "go", "done", "mark", "done",
                                              "send", "done", "stop", "done", "begin", "done", "take_up", "done", "back", "done", "forget", "done", "done"])
        self.assertEqual(one.batch([]), [])
        self.assertEqual(one.batch(deeds=[]), [])
        self.assertEqual(one.log_now()[-4:], ["batch", "done"] * 2)

    def test_the_list_is_not_changed(self):
        one = house()
        deeds = [("begin", "a", "four"), ("go", "a", [5, 4], 3)]
        kept = copy.deepcopy(deeds)
        one.batch(deeds)
        self.assertEqual(deeds, kept)

    def test_refused_in_the_middle(self):
        one = house()
        one.begin("a", "four")
        one.go("a", (), 3)
        one.mark("m")
        good = [("go", "a", [4], 2), ("begin", "b", "both"), ("mark", "mm"), ("define", (("two", "n", ("#", "z", ())),)), ("stop", "a"), ("back", "m"), ("data", ())]
        for deed, error in [(("stop", "q"), NoRun), (("begin", "b", "q"), NoDef), (("begin", "f", "add"), NotShown), (("mark", "m"), Twice), (("back", "other"), NoMark), (("data", 5), BadProgram),
                            (("define", (("f", "q", ("#", "z", ())),)), NoKind), (("forget", "two"), NoKind), (("forget", "q"), NoDef), (("take_up", "v", None), BadParcel),
                            (("take_up", "V", None), BadName), (("go", None, [1], 2), NoRun), (("send", []), NoRun), (("begin", 0, "two"), BadName)]:
            for at in range(len(good) + 1):
                if deed[0] in ("begin",) and at > 1 and deed[1] == "b":
                    error = Twice if at < 6 else NoDef
                entries = ["batch"]
                for row in good[:at]:
                    entries += [row[0], "done"]
                rows = good[:at] + [deed] + good[at:]
                kept = copy.deepcopy(rows)
                self.refused(one, error, "batch", rows, entries=entries + [deed[0], "refused", "refused"])
                self.assertEqual(rows, kept)

    def test_what_is_no_deed(self):
        one = house()
        one.begin("a", "four")
        bad = [
            (), ("q",), ("batch", []), ("batch",), ("data",), ("data", (), ()), ("define",), ("define", (), 1), ("forget",), ("forget", "f", "g"), ("begin", "b"), ("begin",),
            ("begin", "b", "two", True, 1), ("go",), ("go", "a", (), 5, 5), ("stop",), ("stop", "a", "a"), ("send",), ("send", "a", 1), ("take_up", "b"), ("take_up", "b", None, None),
            ("mark",), ("mark", "m", "m"), ("back",), ("back", "m", "m"), ["go", "a"], "go", None, 5, {"go": "a"}, ("program_now",), ("copy",), ("log_now",), (None,), (0, "a"),
            (["go"], "a"), (("go", "a"),), ({}, "a"), ("Go", "a"), ("go ", "a"), (True, "a"), ("do_deed", "go", ("a",)),
        ]
        for thing in bad + [thing for thing in odd_things()]:
            self.refused(one, BadDeed, "batch", [thing], entries=["batch", "refused"])
            self.refused(one, BadDeed, "batch", [("go", "a", (), 1), thing, ("stop", "a")], entries=["batch", "go", "done", "refused"])
            # A deed that is refused ahead of it comes first.
            self.refused(one, NoRun, "batch", [("stop", "q"), thing], entries=["batch", "stop", "refused", "refused"])

    def test_no_list(self):
        one = house()
        one.begin("a", "four")
        for thing in odd_things() + [(), (("go", "a"),), ("go", "a"), {0: ("go", "a")}, None, "go"]:
            if isinstance(thing, list):
                continue
            self.refused(one, BadDeed, "batch", thing, entries=["batch", "refused"])

    def test_marks_and_goings_in_a_refused_batch(self):
        one = house()
        one.begin("a", "four")
        one.mark("m")
        one.go("a", (), 4)
        kept = one.send("a")
        with self.assertRaises(NoRun):
            one.batch([("go", "a", (), 3), ("back", "m"), ("go", "a"), ("mark", "mm"), ("stop", "q")])
        self.assertEqual(one.send("a"), kept)
        self.refused(one, NoMark, "back", "mm")
        one.mark("mm")
        one.back("m")
        self.assertEqual(one.steps_now("a"), 0)
        one.back("mm")
        self.assertEqual(one.send("a"), kept)


class WhatIsTold(OneHouse):

    def test_log(self):
        one = House()
        one.data(MORE)
        with self.assertRaises(NoDef):
            one.forget("q")
        one.define(DEFS)
        one.begin("a", "two")
        one.runs_now()
        one.worth_now("a")
        with self.assertRaises(NoRun):
            one.worth_now("b")
        one.copy()
        one.program_now()
        with self.assertRaises(BadDeed):
            one.batch([("go", "a"), ("x",)])
        one.batch([("mark", "m"), ("send", "a")])
        self.assertEqual(one.log_now(), ["data", "done", "forget", "refused", "define", "done", "begin", "done", "batch", "go", "done", "refused",
                                         "batch", "mark", "done", "send", "done", "done"])

    def test_names_rise(self):
        one = house()
        for name in ("two", "b", "zz", "a", "aa", "z"):
            one.begin(name, "two")
        self.assertEqual(one.runs_now(), ["a", "aa", "b", "two", "z", "zz"])

    def test_is_the_askers_own(self):
        one = house()
        one.begin("a", "both")
        one.go("a", (), 6)
        one.mark("m")
        kept, log = state(one), one.log_now()
        one.runs_now().clear()
        one.counts_now("a").clear()
        one.counts_now("a")[("call",)] = 99
        one.log_now().append("done")
        one.log_now().clear()
        net = one.net_now("a")
        for agent in net.numbers():
            net.take_away(agent)
        told = one.batch([("send", "a")])
        told.clear()
        self.assertEqual(state(one), kept)
        self.assertEqual(one.log_now(), log + ["batch", "send", "done", "done"])
        one.back("m")
        self.assertEqual(state(one), kept)
        parcel = one.send("a")
        other = House()
        other.take_up("a", parcel)
        other.counts_now("a").clear()
        other.go("a")
        self.assertEqual(one.send("a"), parcel)
        again = House()
        again.take_up("a", parcel)
        self.assertEqual(again.send("a"), parcel)

    def test_copies(self):
        one = house()
        one.begin("a", "four")
        one.go("a", (), 3)
        one.mark("m")
        one.begin("b", "both", True)
        other = one.copy()
        self.assertIsInstance(other, House)
        self.assertEqual(other.log_now(), [])
        kept, log = state(one), one.log_now()
        self.assertEqual(state(other), kept)
        other.go("a")
        other.go("b", (), 2)
        other.define((("two", "n", ("#", "z", ())),))
        other.back("m")
        other.go("a", (), 1)
        other.mark("mm")
        other.stop("a")
        self.assertEqual(state(one), kept)
        self.assertEqual(one.log_now(), log)
        self.refused(one, NoMark, "back", "mm")
        one.back("m")
        self.assertEqual(one.steps_now("a"), 3)
        other.back("m")
        self.assertEqual(other.steps_now("a"), 3)
        self.assertEqual(other.log_now(), ["go", "done", "go", "done", "define", "done", "back", "done", "go", "done", "mark", "done", "stop", "done", "back", "done"])

    def test_arguments(self):
        one = House()
        one.data(datas=MORE)
        one.define(defs=DEFS)
        one.begin(name="a", f="two", tight=True)
        one.go(name="a", picks=[], most=3)
        one.take_up(name="b", parcel=one.send(name="a"))
        one.mark(name="m")
        one.back(name="m")
        one.batch(deeds=[])
        self.assertEqual((one.worth_now(name="a"), one.is_ended_now(name="a"), one.steps_now(name="a"), one.counts_now(name="a")),
                         (meaning(PROGRAM, "two")[0], True, 1, {("open", "two"): 1}))
        one.net_now(name="b")
        one.stop(name="a")
        one.forget(f="both")


class Histories(OneHouse):
    """Deeds by chance, refused ones among the good ones, beside a house to which the good ones alone are said."""

    def deed(self, luck, one, odd):
        names = ["a", "b", "c", "Q", None]
        program = one.program_now()
        defs = [f for f, _, _ in program[1]] + ["q", 0]
        parcels = [None, (), 5]
        for name in one.runs_now():
            parcels.append(one.copy().send(name))
        some = luck.sample(DEFS, luck.randrange(len(DEFS) + 1))
        rows = [
            ("data", luck.choice([(), MORE, (("v", (("va", ("n",)),)),), luck.choice(odd)])),
            ("define", luck.choice([tuple(some), DEFS, (("two", "n", ("#", "z", ())),), (("two", "b", ("#", "no", ())),), luck.choice(odd)])),
            ("forget", luck.choice(defs)),
            ("begin", luck.choice(names), luck.choice(defs), luck.random() < 0.5),
            ("begin", luck.choice(names), luck.choice(defs)),
            ("go", luck.choice(names), [luck.randrange(99) for _ in range(3)], luck.randrange(8)),
            ("go", luck.choice(names)),
            ("stop", luck.choice(names)),
            ("send", luck.choice(names)),
            ("take_up", luck.choice(names), luck.choice(parcels)),
            ("mark", luck.choice(["m", "mm", "other", "", 3])),
            ("back", luck.choice(["m", "mm", "other", "n", None])),
        ]
        return luck.choice(rows)

    def test_by_chance(self):
        luck = chance(112)
        odd = odd_things()
        refused = done = 0
        for _ in range(60):
            one, plain = House(), House()
            log = []
            for word, thing in (("data", MORE), ("define", DEFS)) if luck.random() < 0.8 else ():
                getattr(one, word)(thing)
                getattr(plain, word)(thing)
                log += [word, "done"]
            for _ in range(40):
                if luck.random() < 0.2:
                    deeds = [self.deed(luck, one, odd) for _ in range(luck.randrange(4))]
                    log.append("batch")
                    scratch = one.copy()
                    try:
                        told = one.batch(deeds)
                        self.assertEqual(told, [getattr(plain, row[0])(*row[1:]) for row in deeds])
                        for row in deeds:
                            log += [row[0], "done"]
                        log.append("done")
                    except OnceError as error:
                        for row in deeds:
                            log.append(row[0])
                            try:
                                getattr(scratch, row[0])(*row[1:])
                                log.append("done")
                            except OnceError as other:
                                self.assertIs(type(other), type(error))
                                log.append("refused")
                                break
                        log.append("refused")
                        refused += 1
                else:
                    word, *things = self.deed(luck, one, odd)
                    log.append(word)
                    try:
                        told = getattr(one, word)(*things)
                        log.append("done")
                        done += 1
                        self.assertEqual(getattr(plain, word)(*things), told)
                    except OnceError:
                        log.append("refused")
                        refused += 1
                self.assertEqual(state(one), state(plain))
                self.assertEqual(one.log_now(), log)
            self.assertEqual(marked(one), marked(plain))
        self.assertGreater(min(done, refused), 300)

    def test_sent_and_gone_on_with_beside_the_meaning(self):
        luck = chance(113)
        ended = 0
        for program in programs(luck, 30, wide=50, deep=10):
            one = House()
            one.data(program[0])
            one.define(program[1])
            for f in [f for f, kind, _ in program[1] if is_shown(kind)]:
                try:
                    worth, counts = reckoned(program, f, 300)
                except Endless:
                    continue
                for tight in (False, True):
                    here = one.copy()
                    here.begin("a", f, tight)
                    for _ in range(4):
                        here.go("a", [luck.randrange(10 ** 6) for _ in range(20)], luck.randrange(20))
                        there = House()
                        there.take_up("a", here.send("a"))
                        here = there
                    self.assertIs(here.go("a", [-1] * 300, 400), True)
                    self.assertEqual(here.worth_now("a"), worth)
                    self.assertIs(here.is_ended_now("a"), True)
                    if not tight:
                        self.assertEqual(here.counts_now("a"), counts)
                    self.assertEqual(here.steps_now("a"), sum(here.counts_now("a").values()))
                    ended += 1
        self.assertGreater(ended, 60)

    def test_programs_told_by_and_by(self):
        for program in programs(chance(114), 30, wild=0.4):
            one = House()
            for data in DATAS:
                one.data((data,))
            for row in program[1]:
                # By itself a def may need others that aren't there yet.
                try:
                    one.define((row,))
                except NoKind as fault:
                    self.assertEqual((fault.name, fault.why), (row[0], "def"))
                self.assertTrue(is_kind(row[1]))
            one.define(program[1])
            self.assertEqual(sorted(one.program_now()[1]), sorted(program[1]))


if __name__ == "__main__":
    unittest.main()
