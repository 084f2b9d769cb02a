"""Point 3: whatever is done first, all runs are one; each beside the meaning."""

import unittest

from oncewire.back import is_ended, shown
from oncewire.beats import beats
from oncewire.books import Book
from oncewire.desk import Desk
from oncewire.errors import OnceError, TooLong
from oncewire.house import House
from oncewire.kinds import let_by
from oncewire.lines import line_of, net_of
from oncewire.meaning import meaning, road_of
from oncewire.nets import alike, is_pairing, moves
from oncewire.papers import is_paired, is_run, joined, paired
from oncewire.runs import Run
from oncewire.shapes import is_shown
from oncewire.texts import program_text, read_program, term_text
from oncewire.wires import is_order, order_in, unfit, way
from oncewire.words import Words, is_memory

from chances import programs
from samples import chance
from worths import Endless, choice_kinds, merged, port_kind, read_worth, reckoned

NUMBERS = read_program("""
(= n (z) (s n))
(= b (no) (yes))
(@ add (> n (> n n)) (^ a n (^ c n (? a (z : c) (s m : (# s (! (! @add m) c)))))))
(@ mul (> n (> n n)) (^ a n (^ c n (? a (z : (- c (# z))) (s m : (+ c x y (! (! @add x) (! (! @mul m) y))))))))
(@ less (> n (> n b)) (^ a n (^ c n (? a (z : (? c (z : (# no)) (s k : (- k (# yes)))))
    (s m : (? c (z : (- m (# no))) (s k : (! (! @less m) k))))))))
(@ fact (> n n) (^ a n (? a (z : (# s (# z))) (s m : (+ m x y (! (! @mul (# s x)) (! @fact y)))))))
(@ even (> n b) (^ a n (? a (z : (# yes)) (s m : (! @odd m)))))
(@ odd (> n b) (^ a n (? a (z : (# no)) (s m : (! @even m)))))
(@ three n (# s (# s (# s (# z)))))
(@ six n (! @fact @three))
(@ pair (* n b) (+ @six x y (& (! (! @mul x) @three) (! @even y))))
(@ cmp (* b b) (+ @three x y (& (! (! @less x) @six) (! (! @less @six) y))))
""")

ROWS = read_program("""
(= n (z) (s n))
(= b (no) (yes))
(= l (nil) (cons n l))
(@ app (> l (> l l)) (^ a l (^ c l (? a (nil : c) (cons h t : (# cons h (! (! @app t) c)))))))
(@ rev (> l (> l l)) (^ a l (^ c l (? a (nil : c) (cons h t : (! (! @rev t) (# cons h c)))))))
(@ less (> n (> n b)) (^ a n (^ c n (? a (z : (? c (z : (# no)) (s k : (- k (# yes)))))
    (s m : (? c (z : (- m (# no))) (s k : (! (! @less m) k))))))))
(@ put (> n (> l l)) (^ x n (^ l l (? l (nil : (# cons x (# nil))) (cons h t : (+ x x y (+ h h k
    (? (! (! @less k) y) (no : (# cons x (# cons h t))) (yes : (# cons h (! (! @put x) t)))))))))))
(@ sort (> l l) (^ a l (? a (nil : (# nil)) (cons h t : (! (! @put h) (! @sort t))))))
(@ each (> (* (> n (* n n)) l) l) (^ p (* (> n (* n n)) l) (/ p f l (? l (nil : (/ (! f (# z)) x y (- x (- y (# nil)))))
    (cons h t : (/ (! f h) x y (# cons x (# cons y t))))))))
(@ row l (# cons (# s (# s (# z))) (# cons (# z) (# cons (# s (# s (# s (# z)))) (# cons (# s (# z)) (# nil))))))
(@ rows (* l (* l l)) (+ @row x y (+ x x v (& (! @sort x) (& (! (! @rev y) (# nil)) (! (! @app v) @row))))))
(@ twice l (! @each (& (^ x n (+ x y v (& (# s y) v))) @row)))
""")

TREES = read_program("""
(= n (z) (s n))
(= t (leaf) (node t n t))
(= l (nil) (cons n l))
(@ add (> n (> n n)) (^ a n (^ c n (? a (z : c) (s m : (# s (! (! @add m) c)))))))
(@ grow (> n t) (^ a n (? a (z : (# leaf)) (s m : (+ m m x (+ m m y (# node (! @grow m) (# s x) (! @grow y))))))))
(@ sum (> t n) (^ a t (? a (leaf : (# z)) (node g m d : (! (! @add (! @sum g)) (! (! @add m) (! @sum d)))))))
(@ turn (> t t) (^ a t (? a (leaf : (# leaf)) (node g m d : (# node (! @turn d) m (! @turn g))))))
(@ flat (> t (> l l)) (^ a t (? a (leaf : (^ l l l)) (node g m d : (^ l l (! (! @flat g) (# cons m (! (! @flat d) l))))))))
(@ three n (# s (# s (# s (# z)))))
(@ all (* n (* t l)) (+ (! @grow @three) x y (+ y y v (& (! @sum x) (& (! @turn y) (! (! @flat v) (# nil)))))))
(@ bush t (! @turn (! @turn (! @grow @three))))
""")

ENDLESS = read_program("""
(= n (z) (s n))
(= t (leaf) (node t t))
(@ ever n (# s @ever)) (@ loop n @loop) (@ drops n (- @drops (# z))) (@ grow t (# node @grow @grow))
(@ call n (! @again (# z))) (@ again (> n n) (^ x n (! @again (# s x))))
(@ turn (* n n) (/ @turn x y (& y x))) (@ copies n (+ @copies x y (- x y)))
(@ down n (! @count (# s (# s (# z))))) (@ count (> n n) (^ x n (? x (z : @ever) (s m : (! @count m)))))
""")


def shown_defs(program):
    return [f for f, kind, _ in program[1] if is_shown(kind)]


def picks(luck, many):
    """A row of picks: by chance, always the last, or now one and now the other."""
    way = luck.randrange(4)
    rows = [[luck.randrange(10 ** 9) for _ in range(many)], [-1] * many, [0, -1] * (many // 2), [luck.randrange(3)] * many]
    return rows[way]


class OneWorth(unittest.TestCase):

    def ended(self, program, f, run, worth, counts):
        """Looks at an ended run."""
        self.assertEqual(run.moves_now(), [])
        told, agents = read_worth(run.net_now())
        self.assertEqual(told, worth)
        self.assertEqual(sorted(agents + [0]), run.net_now().numbers())
        self.assertEqual(shown(run.net_now()), worth)
        self.assertIs(is_ended(run.net_now()), True)
        self.assertEqual(run.net_now().symbol_of(0), ("out", {name: kind for name, kind, _ in program[1]}[f]))
        found = run.counts()
        for symbols, many in run.laid_now().items():
            self.assertGreater(many, 0)
            for _ in range(many):
                found = merged(found, run.book.saved(*symbols))
        self.assertEqual(found, counts)
        self.assertEqual(sum(run.counts().values()), run.steps())
        self.assertEqual(len(run.done()), run.steps())

    def check(self, program, luck, orders, most):
        let_by(program)
        plain, tight = Book(program), Book(program, tight=True)
        for f in shown_defs(program):
            worth, counts = reckoned(program, f, most)
            self.assertEqual(meaning(program, f, most=most), (worth, counts))
            self.assertIsNone(road_of(program, f))
            steps = sum(counts.values())
            for book in (plain, tight):
                nets = []
                for order in range(orders):
                    run = Run(book, f)
                    row = picks(luck, steps)
                    if order == 0:
                        while run.beat():
                            pass
                    elif order == 1:
                        while run.beat(hands=3):
                            pass
                    else:
                        # Half-run here, gone on with elsewhere, now and then by a copy.
                        half = luck.randrange(steps + 1)
                        run.go(row[:half], most=half)
                        run.copy().go(row, most=9)
                        run = run.copy()
                        self.assertIs(run.go(row[half:], most=steps), True)
                    self.ended(program, f, run, worth, counts)
                    if book.tight is False:
                        self.assertEqual(run.steps(), steps)
                        self.assertEqual(run.counts(), counts)
                    nets.append((run.net_now(), run.laid_now(), run.greatest(), run.counts()))
                self.by_words_and_hands(book, f, luck, nets[0], worth)
                for net, rows, greatest, found in nets[1:]:
                    pairing = alike(nets[0][0], net)
                    self.assertIs(is_pairing(nets[0][0], net, pairing), True)
                    self.assertEqual((rows, greatest, found), nets[0][1:])

    def by_words_and_hands(self, book, f, luck, told, worth):
        """The same in words of memory; and how many beats there are by some hands."""
        net, rows, greatest, found = told
        steps = sum(found.values())
        words = Words(book, f, room=10 ** 6)
        row = picks(luck, steps)
        half = luck.randrange(steps + 1)
        words.go(row[:half], most=half)
        self.assertIs(is_memory(book, words.words()), True)
        self.assertIs(words.go(row[half:], most=steps), True)
        self.assertEqual((words.steps(), words.counts(), words.laid_now(), shown(words.net_now())), (steps, found, rows, worth))
        self.assertIs(is_ended(words.net_now()), True)
        self.assertIsNotNone(alike(words.net_now(), net))
        self.assertEqual(beats(book, f, most=steps), (greatest, steps))
        for hands in (1, 2, 5, 100):
            many, _ = beats(book, f, hands=hands, most=steps)
            self.assertGreaterEqual(many, max(greatest, -(-steps // hands)))
            self.assertLessEqual(many, greatest + (steps - greatest) // hands)

    def test_numbers(self):
        self.check(NUMBERS, chance(51), 9, 5000)

    def test_rows(self):
        self.check(ROWS, chance(52), 9, 5000)

    def test_trees(self):
        self.check(TREES, chance(53), 9, 5000)

    def test_worths_as_they_are_reckoned_by_hand(self):
        def number(many):
            return ("#", "z", ()) if many == 0 else ("#", "s", (number(many - 1),))

        def row(*many):
            return ("#", "nil", ()) if not many else ("#", "cons", (number(many[0]), row(*many[1:])))

        self.assertEqual(meaning(NUMBERS, "six")[0], number(6))
        self.assertEqual(meaning(NUMBERS, "pair")[0], ("&", number(18), ("#", "yes", ())))
        self.assertEqual(meaning(NUMBERS, "cmp")[0], ("&", ("#", "yes", ()), ("#", "no", ())))
        self.assertEqual(meaning(ROWS, "rows")[0], ("&", row(0, 1, 2, 3), ("&", row(1, 3, 0, 2), row(2, 0, 3, 1, 2, 0, 3, 1))))
        self.assertEqual(meaning(ROWS, "twice")[0], row(3, 2, 0, 3, 1))
        self.assertEqual(meaning(TREES, "all")[0][1], number(11))
        self.assertEqual(meaning(TREES, "all")[0][2][2], row(1, 2, 1, 3, 1, 2, 1))
        self.assertEqual(meaning(TREES, "bush")[0][2][1], number(3))

    def test_programs_by_chance(self):
        luck = chance(54)
        ended = 0
        for program in programs(luck, 120, wide=50, deep=10):
            try:
                for f in shown_defs(program):
                    reckoned(program, f, 600)
            except Endless:
                continue
            self.check(program, luck, 5, 600)
            ended += 1
        self.assertGreater(ended, 80)


class Together(unittest.TestCase):
    """Runs stopped anywhere come together by just the moves that each one lacks; what is half-run is gone on with elsewhere."""

    def run_of(self, book, f, luck, most):
        run = Run(book, f)
        run.go(picks(luck, 800), most=most)
        return run

    def test_joined(self):
        luck = chance(58)
        for program in (NUMBERS, ROWS, TREES, ENDLESS):
            for tight in (False, True):
                book = Book(program, tight=tight)
                for f in shown_defs(program):
                    for _ in range(3):
                        runs = [self.run_of(book, f, luck, luck.randrange(120)) for _ in range(2)]
                        behind = joined(book, f, *[run.done() for run in runs])
                        for run, moves_behind in zip(runs, behind):
                            for move in moves_behind:
                                run.do(move)
                        self.assertIsNotNone(alike(runs[0].net_now(), runs[1].net_now()))
                        self.assertEqual(runs[0].steps(), runs[1].steps())
                        self.assertEqual(runs[0].counts(), runs[1].counts())
                        self.assertEqual(runs[0].greatest(), runs[1].greatest())
                        self.assertEqual(joined(book, f, *[run.done() for run in runs]), ([], []))

    def test_papers(self):
        luck = chance(59)
        for program in (NUMBERS, ROWS, TREES):
            for tight in (False, True):
                book = Book(program, tight=tight)
                for f in shown_defs(program):
                    worth, _ = meaning(program, f)
                    one, other = [self.run_of(book, f, luck, 2000).done() for _ in range(2)]
                    self.assertIs(is_run(book, f, one, worth), True)
                    self.assertIs(is_run(book, f, one[:-1], worth), False)
                    told = paired(book, f, one, other)
                    self.assertEqual(sorted(told), list(range(len(one))))
                    self.assertIs(is_paired(book, f, one, other, told), True)
                    self.assertIs(is_paired(book, f, one, other, told[::-1]), len(told) == 1)

    def test_elsewhere(self):
        """By nets, lines, parcels and rows by turns, each time stopped anywhere."""
        luck = chance(60)
        for program in (NUMBERS, ROWS, TREES):
            for tight in (False, True):
                book = Book(program, tight=tight)
                for f in shown_defs(program):
                    worth, counts = meaning(program, f)
                    whole = self.run_of(book, f, luck, 2000)
                    run = self.run_of(book, f, luck, luck.randrange(whole.steps() + 1))
                    steps = run.steps()
                    run = Run(book, None, net=net_of(book, line_of(book, run.net_now())))
                    run.go(picks(luck, 100), most=luck.randrange(100))
                    steps += run.steps()
                    here, there = House(), House()
                    here.take_up("a", (program, f, tight, line_of(book, run.net_now()), tuple(sorted(run.counts().items()))))
                    steps -= here.steps_now("a")
                    here.go("a", picks(luck, 100), luck.randrange(100))
                    there.take_up("b", here.send("a"))
                    self.assertIs(there.go("b", picks(luck, 800), 2000), True)
                    self.assertEqual(steps + there.steps_now("b"), whole.steps())
                    self.assertEqual((there.worth_now("b"), there.is_ended_now("b")), (worth, True))
                    one = Desk()
                    one.say("tell " + program_text(program))
                    one.say(("tight r " if tight else "begin r ") + f)
                    for _ in range(5):
                        one.say(f"go r {luck.randrange(60)}")
                    self.assertEqual(one.say("go r 2000"), "ended")
                    self.assertEqual((one.say("worth r"), one.say("steps r")), (term_text(worth), str(whole.steps())))

    def test_what_is_refused_changes_nothing(self):
        luck = chance(50)
        for program in (NUMBERS, TREES):
            one = House()
            one.data(program[0])
            one.define(program[1])
            bad = [("data", program[0]), ("define", (("f", "n", "x"),)), ("forget", "three"), ("begin", "a", "three"), ("begin", "c", "add"), ("go", "c"), ("stop", "c"),
                   ("take_up", "c", ()), ("take_up", "a", None), ("mark", "M"), ("back", "m"), ("batch", [("go", "a", [3], 9), ("stop", "a"), ("stop", "a")]), ("batch", ())]
            for f in shown_defs(program):
                worth, counts = meaning(program, f)
                one.begin("a", f)
                steps = 0
                while not one.is_ended_now("a"):
                    word, *things = luck.choice(bad)
                    with self.assertRaises(OnceError):
                        getattr(one, word)(*things)
                    self.assertEqual(one.steps_now("a"), steps)
                    one.go("a", picks(luck, 10), 10)
                    steps = one.steps_now("a")
                self.assertEqual((one.worth_now("a"), one.counts_now("a")), (worth, counts))
                one.stop("a")
            self.assertEqual((one.program_now(), one.runs_now()), (program, []))


class NoEnd(unittest.TestCase):

    def test_no_run_ends(self):
        luck = chance(55)
        for book in (Book(ENDLESS), Book(ENDLESS, tight=True)):
            for f in shown_defs(ENDLESS):
                with self.assertRaises(TooLong):
                    meaning(ENDLESS, f)
                for _ in range(6):
                    run = Run(book, f)
                    self.assertIs(run.go(picks(luck, 150), most=150), False)
                    self.assertEqual(run.steps(), 150)
                    self.assertNotEqual(run.moves_now(), [])
                run = Run(book, f)
                for _ in range(9):
                    self.assertGreater(run.beat(), 0)
                words = Words(book, f, room=10 ** 5)
                self.assertIs(words.go(picks(luck, 150), most=150), False)
                self.assertNotEqual(words.moves_now(), [])
                for hands in (None, 1, 3):
                    with self.assertRaises(TooLong):
                        beats(book, f, hands=hands, most=300)

    def test_where_there_is_a_road(self):
        luck = chance(56)
        found = 0
        for program in programs(luck, 100, wild=0.6):
            for f in shown_defs(program):
                if road_of(program, f) is not None:
                    found += 1
                    with self.assertRaises(TooLong):
                        meaning(program, f)
                    for tight in (False, True):
                        run = Run(Book(program, tight=tight), f)
                        self.assertIs(run.go(picks(luck, 120), most=120), False)
        self.assertGreater(found, 10)


class OnTheWay(unittest.TestCase):
    """At each moment of a run: no port is untied, each wire has one kind, no agents wait in a ring."""

    def look_at(self, program, kinds, book, net):
        self.assertEqual(unfit(book, net), [])
        self.assertIs(is_order(net, order_in(net)), True)
        agents, word = way(net)
        self.assertIn(word, ("shown", "opens", "meets"))
        if word != "shown":
            # What out waits for is at once done or done next.
            self.assertIn(tuple(agents[-1:] if word == "opens" else sorted(agents[-2:])), moves(net))
        waits = {}
        for n in net.numbers():
            symbol = net.symbol_of(n)
            for place in range(net.lower_of(n) + 1):
                end = net.end_of((n, place))
                self.assertIsNotNone(end)
                one = port_kind(program, kinds, symbol, place)
                other = port_kind(program, kinds, net.symbol_of(end[0]), end[1])
                self.assertEqual(one[1], other[1])
                self.assertNotEqual(one[0], other[0])
            end = net.end_of((n, 0))
            # An agent whose head is at a lower port waits for that port's agent.
            waits[n] = end[0] if end[1] > 0 else None
        for n in waits:
            at, seen = n, set()
            while at is not None:
                self.assertNotIn(at, seen)
                seen.add(at)
                at = waits[at]

    def test_nets_of_runs(self):
        luck = chance(57)
        rows = [(program, 40) for program in (NUMBERS, ROWS, TREES, ENDLESS)]
        rows += [(program, 25) for program in programs(luck, 25, wide=50, deep=10, wild=0.2)]
        for program, most in rows:
            kinds = choice_kinds(program, let_by(program))
            for tight in (False, True):
                book = Book(program, tight=tight)
                for f in shown_defs(program):
                    words = Words(book, f, room=10 ** 6)
                    for _ in range(most // 2):
                        self.look_at(program, kinds, book, words.net_now())
                        words.go([luck.randrange(99)], most=1)
                    run = Run(book, f)
                    for _ in range(most):
                        net = run.net_now()
                        self.look_at(program, kinds, book, net)
                        ways = run.moves_now()
                        if not ways:
                            self.assertEqual(read_worth(net)[0], meaning(program, f)[0])
                            break
                        # Each move has a rule.
                        for way in ways:
                            run.copy().do(way)
                        run.do(luck.choice(ways))


if __name__ == "__main__":
    unittest.main()
