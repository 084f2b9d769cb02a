"""Points 2, 3, 15, 16 and 22: oncewire.words."""

import time
import unittest

from oncewire.back import is_ended, shown
from oncewire.books import Book
from oncewire.errors import NoDef, NoMove, NoRoom, NotShown
from oncewire.meaning import meaning
from oncewire.nets import alike, is_pairing, moves
from oncewire.runs import Run, laid, started
from oncewire.shapes import is_shown
from oncewire.texts import read_program
from oncewire.words import Words, is_memory

from chances import programs
from samples import chance, odd_things
from worths import Endless, reckoned

PROGRAM = read_program("""
(= n (z) (s n)) (= b (no) (yes)) (= l (nil) (cons n l)) (= t (leaf) (node t n l t))
(@ add (> n (> n n)) (^ a n (^ c n (? a (z : c) (s m : (# s (! (! @add m) c)))))))
(@ two n (# s (# s (# z))))
(@ four n (! (! @add @two) @two))
(@ pick b (/ (& (# z) @two) x y (- x (? y (z : (# no)) (s m : (- m (# yes)))))))
(@ ever n (# s @ever))
(@ itself n @itself)
(@ turn n (? (# z) (z : @turn) (s m : (- m @turn))))
(@ bush t (# node (# leaf) @two (# cons (# z) (# nil)) (# leaf)))
(@ bushes (* t t) (+ @bush x y (& x y)))
""")
BOOK = Book(PROGRAM)
TIGHT = Book(PROGRAM, tight=True)


def blocks_of(book, words):
    """The agents and the free blocks of a memory as they are told by the words, by a way of its own; None where it is none."""
    if type(words) is not list or len(words) < 12 or any(type(word) is not int for word in words):
        return None
    if words[0] != len(words) or words[1] != 0:
        return None
    owner = [None] * len(words)
    agents, free = {}, {}

    def claim(at, size, who):
        if at < 12 or at + size > len(words) or any(owner[one] is not None for one in range(at, at + size)):
            return False
        owner[at:at + size] = [who] * size
        return True

    for size in range(2, 12):
        at = words[size]
        while at != 0:
            if not claim(at, size, "free") or words[at] != 0:
                return None
            free[at] = size
            at = words[at + 1]
    at = 12
    symbols = book.symbols()
    while at < len(words):
        if at in free:
            at += free[at]
            continue
        if not 1 <= words[at] <= len(symbols):
            return None
        symbol = symbols[words[at] - 1]
        if not claim(at, 2 + book.lower(symbol), at):
            return None
        agents[at] = symbol
        at += 2 + book.lower(symbol)
    for agent, symbol in agents.items():
        for port in range(agent + 1, agent + 2 + book.lower(symbol)):
            end = words[port]
            if not 12 <= end < len(words) or owner[end] in ("free", None) or owner[end] == end or end == port or words[end] != port:
                return None
    return agents, free


def net_by_words(book, words):
    """Agents by addresses, and ends, as the words tell them."""
    agents, _ = blocks_of(book, words)
    places = {agent + 1 + place: (agent, place) for agent, symbol in agents.items() for place in range(book.lower(symbol) + 1)}
    return agents, {port: places[words[at]] for at, port in places.items()}


class Started(unittest.TestCase):

    def test_word_by_word(self):
        for book in (BOOK, TIGHT):
            row = book.symbols()
            for f, kind, _ in PROGRAM[1]:
                if is_shown(kind):
                    wanted = [16] + [0] * 11 + [1 + row.index(("out", kind)), 15, 1 + row.index(("def", f)), 13]
                    for words in (Words(book, f), Words(book=book, f=f, room=16)):
                        self.assertEqual(words.words(), wanted)
                        self.assertEqual(words.moves_now(), [(14,)])
                        self.assertEqual((words.steps(), words.counts(), words.done(), words.laid_now()), (0, {}, [], {}))

    def test_refused(self):
        for book in (BOOK, TIGHT):
            for thing in odd_things() + ["n", "q", ("two",), ("def", "two")]:
                with self.assertRaises(NoDef):
                    Words(book, thing)
                with self.assertRaises(NoDef):
                    Words(book, thing, room=0)
            with self.assertRaises(NotShown):
                Words(book, "add", room=0)
            for room in (15, 12, 0, -1, -10 ** 39):
                with self.assertRaises(NoRoom):
                    Words(book, "two", room=room)
        with self.assertRaises(TypeError):
            Words(BOOK, "two", 4000)

    def test_room(self):
        self.assertEqual(Words(BOOK, "two", room=16).moves_now(), [(14,)])
        # Three makers: 3 + 3 + 2 words, of which the def's block gives 2.
        for room, fits in ((22, True), (21, False), (16, False)):
            words = Words(BOOK, "two", room=room)
            if fits:
                words.do((14,))
                self.assertEqual(len(words.words()), 22)
            else:
                kept = words.words()
                with self.assertRaises(NoRoom):
                    words.do((14,))
                with self.assertRaises(NoRoom):
                    words.go()
                self.assertEqual((words.words(), words.moves_now(), words.steps(), words.done()), (kept, [(14,)], 0, []))
        # Four thousand words where none is told: 16, then three for each opening.
        words = Words(BOOK, "ever")
        self.assertIs(words.go(most=1328), False)
        with self.assertRaises(NoRoom):
            words.go(most=1)
        self.assertEqual((words.steps(), len(words.words())), (1328, 4000))


class Blocks(unittest.TestCase):

    def test_freed_and_taken_again(self):
        # A def that opens to itself alone takes the block that it gives back.
        words = Words(BOOK, "itself", room=16)
        kept = words.words()
        self.assertIs(words.go(most=500), False)
        self.assertEqual(words.words(), kept)
        self.assertEqual((words.steps(), words.counts(), words.moves_now()), (500, {("open", "itself"): 500}, [(14,)]))
        # So does a choice, again and again.
        words = Words(BOOK, "turn", room=19)
        self.assertIs(words.go(most=500), False)
        self.assertEqual(len(words.words()), 19)
        words = Words(BOOK, "turn", room=18)
        with self.assertRaises(NoRoom):
            words.go()
        self.assertEqual(words.steps(), 0)

    def test_ever(self):
        # Each opening takes one block of three words more.
        words = Words(BOOK, "ever", room=100)
        with self.assertRaises(NoRoom):
            words.go()
        self.assertEqual(words.steps(), 28)
        self.assertEqual(len(words.words()), 100)
        self.assertEqual(words.counts(), {("open", "ever"): 28})
        kept = words.words()
        with self.assertRaises(NoRoom):
            words.go(most=1)
        self.assertIs(words.go(most=0), False)
        self.assertEqual(words.words(), kept)
        self.assertEqual(words.steps(), 28)
        self.assertIs(is_memory(BOOK, kept), True)

    def follow(self, book, words, luck, most):
        """Does moves, each looked at by the words ahead of it and behind it; the sizes that were freed."""
        sizes = set()
        for _ in range(most):
            self.assertEqual(words.moves_now(), moves(words.net_now()))
            if not words.moves_now():
                break
            before, net = words.words(), words.net_now()
            agents, free = blocks_of(book, before)
            self.assertEqual({n: net.symbol_of(n) for n in net.numbers()}, agents)
            self.assertEqual({(n, place): net.end_of((n, place)) for n in net.numbers() for place in range(net.lower_of(n) + 1)},
                             net_by_words(book, before)[1])
            move = luck.choice(words.moves_now())
            piece = book.piece(*[agents[n] for n in move])
            if piece is None:
                piece = book.piece(*[agents[n] for n in move[::-1]])
            words.do(move)
            after = words.words()
            self.assertIs(is_memory(book, after), True)
            left = list(free.values()) + [2 + book.lower(agents[n]) for n in move]
            sizes.update(left)
            top = before[0]
            for _, lower in piece[0]:
                if 2 + lower in left:
                    left.remove(2 + lower)
                else:
                    top += 2 + lower
            self.assertEqual(after[0], top)
            later, still = blocks_of(book, after)
            self.assertEqual(sorted(still.values()), sorted(left))
            for n in agents:
                if n not in move:
                    # Who isn't of the move keeps the block.
                    self.assertEqual(later[n], agents[n])
                    self.assertEqual(after[n], before[n])
            self.assertIsNotNone(alike(words.net_now(), laid(book, net, move)))
            self.assertEqual(words.net_now().put(("x",)), max(later, default=-1) + 1)
        return sizes

    def test_followed(self):
        luck = chance(71)
        sizes = set()
        for book in (BOOK, TIGHT):
            for f in ("four", "pick", "ever", "turn", "bush", "bushes"):
                for _ in range(3):
                    sizes |= self.follow(book, Words(book, f), luck, 40)
        for program in programs(luck, 20, wide=60, deep=10, wild=0.2):
            for book in (Book(program), Book(program, tight=True)):
                for f in [f for f, kind, _ in program[1] if is_shown(kind)]:
                    sizes |= self.follow(book, Words(book, f, room=10 ** 5), luck, 15)
        self.assertGreaterEqual(len(sizes), 5)

    def test_each_size(self):
        """Choices that hold from none to eight names: each block is freed and taken again."""
        names = "acdefghi"
        for many in range(9):
            drops = "".join(f"(- {name} " for name in names[:many])
            inner = f"(? x (no : {drops}@f{')' * many}) (yes : {drops}@f{')' * many}))"
            for name in names[:many]:
                inner = f"(! (^ {name} b {inner}) (# no))"
            book = Book(read_program(f"(= b (no) (yes)) (@ f b (! (^ x b {inner}) (# yes)))"))
            self.assertEqual(book.lower(("choose", 0)), 1 + many)
            words = Words(book, "f", room=10 ** 5)
            seen = set()
            for at in range(200):
                if at == 100:
                    top = len(words.words())
                for move in words.moves_now():
                    words.do(move)
                self.assertIs(is_memory(book, words.words()), True)
                seen |= set(blocks_of(book, words.words())[1].values())
            # Each time round takes the blocks that the one ahead of it gave back.
            self.assertEqual(len(words.words()), top)
            self.assertIn(3 + many, seen)
            self.assertGreater(words.counts()[("open", "f")], 4)

    def test_choices_that_hold_more(self):
        """More than eight names are handed in nowhere; but nothing breaks."""
        names = "acdefghijklm"
        drops = "".join(f"(- {name} " for name in names)
        inner = f"(? x (no : {drops}@f{')' * 12}) (yes : {drops}@f{')' * 12}))"
        for at in (0, 4, 8):
            inner = f"(? (# q (# no) (# no) (# no) (# no)) (q {' '.join(names[at:at + 4])} : {inner}))"
        book = Book(read_program(f"(= b (no) (yes)) (= q (q b b b b)) (@ f b (! (^ x b {inner}) (# yes)))"))
        self.assertEqual(max(book.lower(symbol) for symbol in book.symbols()), 13)
        words = Words(book, "f", room=10 ** 5)
        for _ in range(40):
            words.go([7, 3, 5], most=9)
            self.assertIs(is_memory(book, words.words()), True)
        self.assertGreater(words.counts()[("open", "f")], 3)


class Runs(unittest.TestCase):

    def test_beside_nets(self):
        luck = chance(72)
        rows = [PROGRAM] + programs(luck, 60, wide=50, deep=10)
        ended = 0
        for program in rows:
            for book in (Book(program), Book(program, tight=True)):
                for f in [f for f, kind, _ in program[1] if is_shown(kind)]:
                    try:
                        worth, counts = reckoned(program, f, 500)
                    except Endless:
                        continue
                    run = Run(book, f)
                    run.go()
                    for order in range(4):
                        words = Words(book, f, room=10 ** 6)
                        half = luck.randrange(run.steps() + 1)
                        picks = [luck.randrange(-10 ** 6, 10 ** 6) for _ in range(run.steps())] if order else []
                        words.go(picks[:half], most=half)
                        self.assertIs(words.go(tuple(picks[half:])), True)
                        self.assertEqual((words.steps(), words.counts(), words.laid_now()), (run.steps(), run.counts(), run.laid_now()))
                        self.assertEqual(shown(words.net_now()), worth)
                        self.assertIs(is_ended(words.net_now()), True)
                        self.assertIsNotNone(alike(words.net_now(), run.net_now()))
                        self.assertIs(is_memory(book, words.words()), True)
                    if not book.tight:
                        self.assertEqual(words.counts(), counts)
                    ended += 1
        self.assertGreater(ended, 100)

    def test_picks(self):
        for picks in ([0, 1, 2, 3, 4, 5], [-1] * 9, (3, 1, 4, 1, 5, 9, 2, 6), [10 ** 40 - 1, -(10 ** 40 - 1)], (), [2]):
            for most in (0, 1, 5, 100):
                words, other = Words(BOOK, "four"), Words(BOOK, "four")
                kept = list(picks)
                ended = words.go(picks, most=most)
                self.assertEqual(list(picks), kept)
                for at in range(most):
                    ways = other.moves_now()
                    if ways:
                        other.do(ways[picks[at] % len(ways) if at < len(picks) else 0])
                self.assertEqual((words.words(), words.done(), words.counts()), (other.words(), other.done(), other.counts()))
                self.assertIs(ended, other.moves_now() == [])
        self.assertIs(Words(BOOK, "four").go(most=-3), False)
        self.assertIs(Words(BOOK, "itself").go(), False)
        with self.assertRaises(TypeError):
            words.go((), 5)

    def test_done_and_told(self):
        words = Words(BOOK, "four", room=4000)
        self.assertIsNone(words.do((14,)))
        self.assertIsNone(words.do(move=words.moves_now()[-1]))
        self.assertIs(words.go(), True)
        self.assertEqual(len(words.done()), words.steps())
        self.assertEqual(words.done()[0], (14,))
        self.assertEqual(words.counts(), meaning(PROGRAM, "four")[1])
        self.assertEqual(words.laid_now(), {(("def", "four"),): 1, (("def", "two"),): 2, (("def", "add"),): 3,
                                            (("make", "s"), ("choose", 0)): 2, (("make", "z"), ("choose", 0)): 1})
        # The moves that were done, done again, come to the same words.
        other = Words(BOOK, "four")
        for move in words.done():
            other.do(move)
        self.assertEqual(other.words(), words.words())

    def test_no_move_of_anything(self):
        for book in (BOOK, TIGHT):
            words = Words(book, "four")
            words.go(most=4)
            kept = (words.words(), words.moves_now(), words.counts(), words.done(), words.laid_now())
            one = words.moves_now()[0]
            things = [(12,), (13,), (0,), (-1,), one[::-1] if len(one) == 2 else one + one, one + (12,), list(one), (one,), tuple(map(str, one)),
                      tuple(map(bool, one)), (12, 14), (14, 12), one[0] if len(one) == 1 else one[:1], [one], {one[0]: one}, (10 ** 39,), (None,), (True,)]
            for thing in things + odd_things():
                with self.assertRaises(NoMove):
                    words.do(thing)
            self.assertEqual((words.words(), words.moves_now(), words.counts(), words.done(), words.laid_now()), kept)

    def test_no_move_ahead_of_no_room(self):
        words = Words(BOOK, "two", room=16)
        with self.assertRaises(NoMove):
            words.do((12,))
        with self.assertRaises(NoRoom):
            words.do((14,))

    def test_no_room_on_the_way(self):
        luck = chance(73)
        for f in ("four", "pick", "bushes"):
            for book in (BOOK, TIGHT):
                whole = Words(book, f)
                picks = [luck.randrange(99) for _ in range(100)]
                whole.go(picks)
                greatest = len(whole.words())
                words = Words(book, f, room=greatest)
                self.assertIs(words.go(picks), True)
                self.assertEqual(words.words(), whole.words())
                for room in range(16, greatest):
                    words, other = Words(book, f, room=room), Words(book, f)
                    with self.assertRaises(NoRoom):
                        words.go(picks)
                    other.go(picks, most=words.steps())
                    # What was done ahead stays done, the one that didn't fit isn't done.
                    self.assertEqual((words.words(), words.moves_now(), words.counts(), words.done(), words.laid_now()),
                                     (other.words(), other.moves_now(), other.counts(), other.done(), other.laid_now()))
                    ways = other.moves_now()
                    other.do(ways[picks[other.steps()] % len(ways)])
                    self.assertGreater(len(other.words()), room)
                    # Another move may fit all the same.
                    for move in words.moves_now():
                        try:
                            words.do(move)
                            break
                        except NoRoom:
                            pass
                    self.assertLessEqual(len(words.words()), room)

    def test_what_is_told_is_the_askers_own(self):
        words = Words(BOOK, "four")
        words.go(most=5)
        kept = (words.words(), words.moves_now(), words.counts(), words.done(), words.laid_now())
        net = words.net_now()
        for row in (words.words(), words.moves_now(), words.counts(), words.done(), words.laid_now()):
            row.clear()
        for agent in words.net_now().numbers():
            other = words.net_now()
            other.take_away(agent)
        self.assertEqual((words.words(), words.moves_now(), words.counts(), words.done(), words.laid_now()), kept)
        self.assertEqual(words.net_now(), net)
        self.assertEqual([type(one) for one in kept], [list, list, dict, list, dict])
        self.assertEqual(BOOK.symbols(), Book(PROGRAM).symbols())

    def test_long_ones(self):
        begun = time.process_time()
        words = Words(BOOK, "ever", room=10 ** 5)
        for _ in range(3):
            self.assertIs(words.go(), False)
        self.assertEqual((words.steps(), len(words.words())), (6000, 16 + 3 * 6000))
        self.assertIs(is_memory(BOOK, words.words()), True)
        self.assertLess(time.process_time() - begun, 10)


class IsMemory(unittest.TestCase):

    def told(self):
        luck = chance(74)
        rows = []
        for book in (BOOK, TIGHT):
            for f in ("four", "pick", "bushes", "turn"):
                for most in (0, 1, 3, 8, 15, 100):
                    words = Words(book, f)
                    words.go([luck.randrange(99) for _ in range(most)], most=most)
                    rows.append((book, words.words()))
        return rows

    def test_told_ones(self):
        for book, words in self.told():
            kept = list(words)
            self.assertIs(is_memory(book, words), True)
            self.assertEqual(words, kept)
            self.assertIs(is_memory(book=book, thing=tuple(words)), False)

    def test_one_word_otherwise(self):
        luck = chance(75)
        good = 0
        for book, words in self.told():
            for at in range(len(words)):
                for word in {words[at] + 1, words[at] - 1, 0, 1, luck.randrange(len(words)), len(words), luck.randrange(12, len(words)), -1, 10 ** 39}:
                    other = words[:at] + [word] + words[at + 1:]
                    told = is_memory(book, other)
                    self.assertIs(told, blocks_of(book, other) is not None)
                    good += told and other != words
                for word in (None, str(words[at]), [words[at]], (words[at],), bool(words[at]), {}):
                    self.assertIs(is_memory(book, words[:at] + [word] + words[at + 1:]), False)
            for other in (words[:-1], words + [0], [words[0] + 1] + words[1:] + [0], [words[0] - 1] + words[1:-1], words[:12], [12] + words[1:12], []):
                self.assertIs(is_memory(book, other), blocks_of(book, other) is not None)
        # A free block's words behind its first two are any, and a symbol may be another of as many ports.
        self.assertGreater(good, 50)

    def by_hand(self, *rows):
        """A memory of these blocks behind the first words: lists told as {size: address}."""
        heads = {}
        words = []
        for row in rows:
            if isinstance(row, dict):
                heads.update(row)
            else:
                words += row
        return [12 + len(words), 0] + [heads.get(size, 0) for size in range(2, 12)] + words

    def test_by_hand(self):
        row = BOOK.symbols()
        z, drop, s, leaf = [1 + row.index(one) for one in (("make", "z"), ("drop", "n"), ("make", "s"), ("make", "leaf"))]
        good = [
            self.by_hand(),
            self.by_hand([z, 15], [drop, 13]),
            self.by_hand([z, 15], [z, 13]),
            self.by_hand([s, 14, 13]),
            self.by_hand([leaf, 21], [0, 0, 77], [0, 14, -9], [leaf, 13], {3: 17}),
            self.by_hand([0, 14], [0, 0], {2: 12}),
            self.by_hand([0, 0], [0, 12], {2: 14}),
            self.by_hand([0, 0, 0, 0], {4: 12}),
            self.by_hand([0, 0, 5, 0, 0, 1, 7], {3: 15, 4: 0, 2: 0}, {3: 0, 7: 12}),
        ]
        for words in good:
            self.assertIs(is_memory(BOOK, words), True, words)
            self.assertIsNotNone(blocks_of(BOOK, words))
        bad = [
            # A list that goes round, a block in two lists, blocks that overlap, one that isn't in a list, a gap.
            self.by_hand([0, 12], {2: 12}), self.by_hand([0, 14], [0, 12], {2: 12}), self.by_hand([0, 0, 0], {2: 12, 3: 12}),
            self.by_hand([0, 0, 0, 0], {4: 12, 2: 14}), self.by_hand([0, 0, 0, 0], {2: 12, 3: 13}), self.by_hand([0, 0], [0, 0], {2: 12}), self.by_hand([0, 0]),
            self.by_hand([z, 16], [0], [drop, 13]), self.by_hand([0, 0], [z, 17], [drop, 15]), self.by_hand([0], [0, 0], {2: 13}),
            # Lists that lead elsewhere.
            self.by_hand([0, 5], {2: 12}), self.by_hand([0, 1], {2: 12}), self.by_hand([0, -2], {2: 12}), self.by_hand([0, 99], {2: 12}), self.by_hand({2: 12}),
            self.by_hand([0, 0], {2: 13}), self.by_hand([0, 0], {3: 12}), self.by_hand({2: 11}), self.by_hand({5: -1}), self.by_hand([z, 15], [drop, 13], {2: 12}),
            # Untied ports, ports tied to themselves, to a symbol's word, to a free block.
            self.by_hand([z, 13]), self.by_hand([z, 0]), self.by_hand([z, 12]), self.by_hand([z, 15], [drop, 0]), self.by_hand([z, 15], [drop, 15]),
            self.by_hand([z, 14], [drop, 13]), self.by_hand([z, 15], [0, 0], {2: 14}), self.by_hand([z, 15], [0, 13], {2: 14}), self.by_hand([s, 14, 14]),
            self.by_hand([s, 15, 14], [z, 13]), self.by_hand([z, 15], [drop, 13], [drop, 13]),
            # No symbols.
            self.by_hand([0, 15], [drop, 13]), self.by_hand([len(row) + 1, 15], [drop, 13]), self.by_hand([-1, 15], [drop, 13]), self.by_hand([s, 15], [drop, 13]),
        ]
        for words in bad:
            self.assertIs(is_memory(BOOK, words), False, words)
            self.assertIsNone(blocks_of(BOOK, words))
        self.assertIs(is_memory(BOOK, [12] + [0] * 11), True)
        for words in ([12, 1] + [0] * 10, [13] + [0] * 11, [11] + [0] * 10, [12] + [0] * 10, [12, False] + [0] * 10):
            self.assertIs(is_memory(BOOK, words), False)

    def test_of_anything(self):
        for thing in odd_things() + [[12] + [None] * 11, [12] + [0] * 10 + [[]], ["12"] + [0] * 11, [True] * 12, [0] * 9990]:
            self.assertIs(is_memory(BOOK, thing), False)

    def test_of_another_book(self):
        words = Words(BOOK, "bush")
        words.go()
        other = Book(read_program("(= n (z) (s n)) (@ two n (# s (# z)))"))
        self.assertIs(is_memory(other, words.words()), False)

    def test_of_hands_nets(self):
        """The memory needs no run behind it, but a net of the book's symbols."""
        net = started(BOOK, "two")
        row = BOOK.symbols()
        words = self.by_hand([1 + row.index(net.symbol_of(1)), 15], [1 + row.index(net.symbol_of(0)), 13])
        self.assertIs(is_memory(BOOK, words), True)
        self.assertIs(is_pairing(net, Words(BOOK, "two").net_now(), {0: 12, 1: 14}), True)


if __name__ == "__main__":
    unittest.main()
