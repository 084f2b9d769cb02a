"""A desk: rows of words that a house's deeds are asked for by, answered with texts."""

from oncewire.errors import NoRow
from oncewire.house import House
from oncewire.meaning import meaning
from oncewire.signs import Reader, signs_of_tell
from oncewire.texts import program_text, term_text, worth_text

TELL = "tell "
FIGURES = "0123456789"
MOST_FIGURES = 4

# How many words stand behind the first one.
WORDS = {
    "forget": 1, "begin": 2, "tight": 2, "stop": 1, "mark": 1, "back": 1, "go": 2,
    "worth": 1, "steps": 1, "counts": 1, "mean": 1, "runs": 0, "program": 0,
}


def say_tell(house, text):
    """Puts what a text writes into the program."""
    reader = Reader(text)
    datas, defs = signs_of_tell(reader)
    deeds = []
    if len(datas) > 0:
        deeds.append(("data", datas))
    if len(defs) > 0:
        deeds.append(("define", defs))
    house.batch(deeds)
    return "ok"


def say_forget(house, f):
    """Takes a def away."""
    house.forget(f)
    return "ok"


def say_begin(house, name, f):
    """Begins a run."""
    house.begin(name, f)
    return "ok"


def say_tight(house, name, f):
    """Begins a run by a tight book."""
    house.begin(name, f, True)
    return "ok"


def say_stop(house, name):
    """Takes a run away."""
    house.stop(name)
    return "ok"


def say_mark(house, name):
    """Lays a mark."""
    house.mark(name)
    return "ok"


def say_back(house, name):
    """Goes back to a mark."""
    house.back(name)
    return "ok"


def say_go(house, name, figures):
    """Goes on with a run so many steps at most."""
    return "ended" if house.go(name, (), number_of(figures)) else "goes"


def number_of(figures):
    """The number that figures write, no 0 ahead."""
    if len(figures) > MOST_FIGURES or not all([figure in FIGURES for figure in figures]):
        raise NoRow("no number of at most four figures")
    if figures[0] == "0" and figures != "0":
        raise NoRow("a number with a 0 ahead")
    return int(figures)


def say_worth(house, name):
    """A run's worth as far as it is shown."""
    return worth_text(house.worth_now(name))


def say_steps(house, name):
    """How many steps a run has done."""
    return str(house.steps_now(name))


def say_counts(house, name):
    """How many steps of each name a run has done."""
    counts = house.counts_now(name)
    return listed([".".join([*step, str(counts[step])]) for step in sorted(counts)])


def say_mean(house, f):
    """A def's meaning."""
    worth, _ = meaning(house.program_now(), f)
    return term_text(worth)


def say_runs(house):
    """The names of the runs."""
    return listed(house.runs_now())


def say_program(house):
    """The program."""
    return program_text(house.program_now())


def listed(words):
    """Words parted by blanks, or that there are none."""
    return " ".join(words) if len(words) > 0 else "none"


SAYINGS = {
    "forget": say_forget,
    "begin": say_begin,
    "tight": say_tight,
    "stop": say_stop,
    "mark": say_mark,
    "back": say_back,
    "go": say_go,
    "worth": say_worth,
    "steps": say_steps,
    "counts": say_counts,
    "mean": say_mean,
    "runs": say_runs,
    "program": say_program,
}


class Desk:
    """A house that is asked by rows."""

    def __init__(self):
        self.house = House()

    def say(self, row):
        """The answer to a row."""
        if not isinstance(row, str):
            raise NoRow("no row")
        if row.startswith(TELL):
            return say_tell(self.house, row[len(TELL):])
        word, *more = row.split(" ")
        if word not in WORDS or len(more) != WORDS[word] or "" in more:
            raise NoRow("no row that a desk knows")
        action = SAYINGS[word]
        return action(self.house, *more)
