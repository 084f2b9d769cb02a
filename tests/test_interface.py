"""Point 2 and the interface: names, arguments, where each thing is defined."""

import importlib
import inspect
import unittest

# What stands before "*" is handed in by places or names, what stands behind it by names alone.
FUNCTIONS = {
    "shapes": ["is_name(thing)", "is_kind(thing)", "is_shown(kind)", "is_term(thing)", "is_program(thing)", "parts(term)", "uses(term)",
               "exchanged(program, names)"],
    "texts": ["kind_text(kind)", "term_text(term)", "program_text(program)", "read_kind(text)", "read_term(text)",
              "read_program(text)"],
    "kinds": ["kinding(program, term, *, scope=())", "is_kinding(program, term, thing, *, scope=())", "let_by(program)"],
    "meaning": ["meaning(program, f, *, most=2000)", "road_of(program, f)", "is_road(program, f, thing)"],
    "nets": ["moves(net)", "alike(net, other)", "is_pairing(net, other, thing)"],
    "runs": ["laid(book, net, move)", "started(book, f)"],
    "wires": ["port_kind(book, symbol, place)", "unfit(book, net)", "way(net, *, port=None)", "ring_in(net)", "order_in(net)",
              "is_ring(net, thing)", "is_order(net, thing)"],
    "beats": ["beats(book, f, *, hands=None, most=2000)"],
    "words": ["is_memory(book, thing)"],
    "back": ["shown(net)", "is_ended(net)"],
    "papers": ["is_run(book, f, thing, worth)", "paired(book, f, one, other)", "is_paired(book, f, one, other, thing)", "joined(book, f, one, other)"],
    "lines": ["line_of(book, net)", "net_of(book, line)"],
}
CLASSES = {
    ("nets", "Net"): ["__init__(self)", "put(self, symbol, lower=0, *, at=None)", "tie(self, port, other)", "take_away(self, agent)",
                      "numbers(self)", "symbol_of(self, agent)", "lower_of(self, agent)", "end_of(self, port)", "copy(self)",
                      "__len__(self)", "__eq__(self, other)"],
    ("books", "Book"): ["__init__(self, program, *, tight=False)", "symbols(self)", "lower(self, symbol)", "held(self, k)",
                        "piece(self, symbol, other=None)", "saved(self, symbol, other=None)"],
    ("runs", "Run"): ["__init__(self, book, f, *, net=None)", "moves_now(self)", "do(self, move)", "go(self, picks=(), *, most=2000)",
                      "steps(self)", "counts(self)", "done(self)", "net_now(self)", "laid_now(self)", "copy(self)",
                      "beat(self, *, hands=None)", "greatest(self)"],
    ("words", "Words"): ["__init__(self, book, f, *, room=4000)", "moves_now(self)", "do(self, move)", "go(self, picks=(), *, most=2000)",
                         "steps(self)", "counts(self)", "done(self)", "net_now(self)", "laid_now(self)", "words(self)"],
    ("house", "House"): ["__init__(self)", "data(self, datas)", "define(self, defs)", "forget(self, f)", "begin(self, name, f, tight=False)",
                         "go(self, name, picks=(), most=100)", "stop(self, name)", "send(self, name)", "take_up(self, name, parcel)",
                         "mark(self, name)", "back(self, name)", "batch(self, deeds)", "program_now(self)", "runs_now(self)",
                         "worth_now(self, name)", "is_ended_now(self, name)", "steps_now(self, name)", "counts_now(self, name)",
                         "net_now(self, name)", "log_now(self)", "copy(self)"],
    ("desk", "Desk"): ["__init__(self)", "say(self, row)"],
}


def written(name, thing):
    """A function's name and arguments as they are written here."""
    return name + str(inspect.signature(thing))


class Interface(unittest.TestCase):

    def test_functions(self):
        for file, rows in FUNCTIONS.items():
            module = importlib.import_module("oncewire." + file)
            for row in rows:
                name = row.split("(")[0]
                thing = vars(module)[name]
                self.assertTrue(inspect.isfunction(thing))
                self.assertEqual(thing.__module__, "oncewire." + file)
                self.assertEqual(written(name, thing), row)

    def test_classes(self):
        for (file, name), rows in CLASSES.items():
            made = vars(importlib.import_module("oncewire." + file))[name]
            self.assertTrue(inspect.isclass(made))
            self.assertEqual(made.__module__, "oncewire." + file)
            for row in rows:
                method = row.split("(")[0]
                self.assertEqual(written(method, vars(made)[method]), row)

    def test_most(self):
        self.assertEqual(importlib.import_module("oncewire.meaning").MOST, 2000)


if __name__ == "__main__":
    unittest.main()
