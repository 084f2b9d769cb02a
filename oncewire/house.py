"""A house: a program, runs and marks by their names, and the deeds that change them."""

from oncewire.back import is_ended, shown
from oncewire.defs import def_of
from oncewire.errors import BadDeed, BadName, BadProgram, NoMark, NoRun, OnceError, Twice
from oncewire.kinds import let_by
from oncewire.parcels import begun, parcel_of, taken_up
from oncewire.shapes import are_defs, is_name, is_program

# How many things each deed takes in a batch: those without defaults, and all.
TAKES = {
    "data": (1, 1),
    "define": (1, 1),
    "forget": (1, 1),
    "begin": (2, 3),
    "go": (1, 3),
    "stop": (1, 1),
    "send": (1, 1),
    "take_up": (2, 2),
    "mark": (1, 1),
    "back": (1, 1),
}


def do_data(house, datas):
    """Puts data kinds behind the others."""
    if not isinstance(datas, tuple):
        raise BadProgram("no data kinds")
    change_program(house, (house.program[0] + datas, house.program[1]))


def do_define(house, defs):
    """Puts defs in the places of those of their names, or behind."""
    if not are_defs(defs):
        raise BadProgram("no defs")
    new = {row[0]: row for row in defs}
    old = [row[0] for row in house.program[1]]
    rows = [new.get(row[0], row) for row in house.program[1]]
    rows.extend([row for row in defs if row[0] not in old])
    change_program(house, (house.program[0], tuple(rows)))


def do_forget(house, f):
    """Takes a def away."""
    def_of(house.program, f)
    change_program(house, (house.program[0], tuple([row for row in house.program[1] if row[0] != f])))


def change_program(house, program):
    """Gives a house a program, where it is let by."""
    if not is_program(program):
        raise BadProgram("no program comes of it")
    let_by(program)
    house.program = program


def need_new_name(name, taken):
    """Refuses what is no name, and one that is taken."""
    if not is_name(name):
        raise BadName("no name")
    if name in taken:
        raise Twice("a name that is taken")


def going_of(house, name):
    """The run of a name; the name may be anything."""
    if not is_name(name) or name not in house.runs:
        raise NoRun("no run of this name")
    return house.runs[name]


def do_begin(house, name, f, tight=False):
    """Begins a run of a def of the program as it stands now."""
    need_new_name(name, house.runs)
    house.runs[name] = begun(house.program, f, tight)


def do_go(house, name, picks=(), most=100):
    """Goes on with a run."""
    return going_of(house, name).run.go(picks, most=most)


def do_stop(house, name):
    """Takes a run away."""
    going_of(house, name)
    del house.runs[name]


def do_send(house, name):
    """A run's parcel."""
    return parcel_of(going_of(house, name))


def do_take_up(house, name, parcel):
    """Goes on with a parcel as a run."""
    need_new_name(name, house.runs)
    house.runs[name] = taken_up(parcel)


def do_mark(house, name):
    """Lays a mark."""
    need_new_name(name, house.marks)
    house.marks[name] = (house.program, copied(house.runs))


def do_back(house, name):
    """Goes back to a mark."""
    if not is_name(name) or name not in house.marks:
        raise NoMark("no mark of this name")
    program, runs = house.marks[name]
    house.program = program
    # The mark is gone back to again, so its own runs aren't gone on with.
    house.runs = copied(runs)


def copied(runs):
    """Runs that go on by themselves."""
    return {name: going.copy() for name, going in runs.items()}


def do_batch(house, deeds):
    """Does deeds one behind the other, all or none; what each told."""
    if not isinstance(deeds, list):
        raise BadDeed("no list of deeds")
    program = house.program
    runs = copied(house.runs)
    marks = {name: mark for name, mark in house.marks.items()}
    told = []
    try:
        for row in deeds:
            need_deed(row)
            told.append(house.do_deed(row[0], row[1:]))
    except OnceError:
        house.program = program
        house.runs = runs
        house.marks = marks
        raise
    return told


def need_deed(thing):
    """Refuses what is no deed with what it takes."""
    if not isinstance(thing, tuple) or len(thing) == 0 or not isinstance(thing[0], str) or thing[0] not in TAKES:
        raise BadDeed("no deed")
    least, most = TAKES[thing[0]]
    if not least <= len(thing) - 1 <= most:
        raise BadDeed("too few or too many things")


DEEDS = {
    "data": do_data,
    "define": do_define,
    "forget": do_forget,
    "begin": do_begin,
    "go": do_go,
    "stop": do_stop,
    "send": do_send,
    "take_up": do_take_up,
    "mark": do_mark,
    "back": do_back,
    "batch": do_batch,
}


class House:
    """A program, runs by their names, marks by theirs, and a log of deeds."""

    def __init__(self):
        self.program = ((), ())
        self.runs = {}
        self.marks = {}
        self.log = []

    def do_deed(self, word, things):
        """Does the deed of this name; what it told."""
        self.log.append(word)
        action = DEEDS[word]
        try:
            told = action(self, *things)
        except OnceError:
            self.log.append("refused")
            raise
        self.log.append("done")
        return told

    def data(self, datas):
        """Puts data kinds behind the others."""
        return self.do_deed("data", (datas,))

    def define(self, defs):
        """Puts defs in the places of those of their names, or behind."""
        return self.do_deed("define", (defs,))

    def forget(self, f):
        """Takes a def away."""
        return self.do_deed("forget", (f,))

    def begin(self, name, f, tight=False):
        """Begins a run of a def of the program as it stands now."""
        return self.do_deed("begin", (name, f, tight))

    def go(self, name, picks=(), most=100):
        """Goes on with a run; whether no move is left."""
        return self.do_deed("go", (name, picks, most))

    def stop(self, name):
        """Takes a run away."""
        return self.do_deed("stop", (name,))

    def send(self, name):
        """A run's parcel."""
        return self.do_deed("send", (name,))

    def take_up(self, name, parcel):
        """Goes on with a parcel as a run."""
        return self.do_deed("take_up", (name, parcel))

    def mark(self, name):
        """Lays a mark."""
        return self.do_deed("mark", (name,))

    def back(self, name):
        """Goes back to a mark."""
        return self.do_deed("back", (name,))

    def batch(self, deeds):
        """Does deeds one behind the other, all or none; a list of what each told."""
        return self.do_deed("batch", (deeds,))

    def program_now(self):
        """The program."""
        return self.program

    def runs_now(self):
        """The names of the runs, rising."""
        return sorted(self.runs)

    def worth_now(self, name):
        """A run's worth as far as it is shown."""
        return shown(going_of(self, name).run.net)

    def is_ended_now(self, name):
        """Whether a run is ended."""
        return is_ended(going_of(self, name).run.net)

    def steps_now(self, name):
        """How many steps a run has done, here and elsewhere."""
        return sum(list(going_of(self, name).counts().values()))

    def counts_now(self, name):
        """How many steps of each name a run has done, here and elsewhere."""
        return going_of(self, name).counts()

    def net_now(self, name):
        """A run's net."""
        return going_of(self, name).run.net_now()

    def log_now(self):
        """The log of deeds."""
        return list(self.log)

    def copy(self):
        """A house like this one, its log empty."""
        other = House()
        other.program = self.program
        other.runs = copied(self.runs)
        other.marks = {name: mark for name, mark in self.marks.items()}
        return other
