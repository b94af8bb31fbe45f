"""Made anew: a program and its ways are made into others with the same runs."""

from handways.errors import BadProgram, BadWays
from handways.programs import need_program, need_ways

MOST_STEPS_HERE = 20
MOST_OWNS_HERE = 10


class Making:
    """How a work is made anew: the ways of all works, its own, and its head.

    Behind its own cells it gets one for each param, which is the new cell of a
    param by copy or back. If it holds, things are handed by want, and it gets
    one more for each param that a call may have: there the call's places are
    held as they are found at the call.
    """

    def __init__(self, program, ways, at, holds):
        self.ways = ways
        self.row = ways[at]
        self.owns = program[at][1]
        self.held = self.owns + program[at][0]
        self.holds = holds


def placed(program, ways):
    """The program and ways made anew by place, and want where it was want."""
    need_small(program)
    need_ways(program, ways)
    rows = [["want" if way == "want" else "place" for way in row] for row in ways]
    return made_anew(program, ways, False), tuple([tuple(row) for row in rows])


def wanted(program, ways):
    """The program and ways, which are without want, made anew by want alone."""
    need_small(program)
    need_ways(program, ways)
    for row in ways:
        if "want" in row:
            raise BadWays("wanted takes ways without want")
    return made_anew(program, ways, True), tuple([("want",) * len(row) for row in ways])


def need_small(program):
    """Refuses what is no program, and works that are too full to be made anew."""
    need_program(program)
    for params, owns, body in program:
        if owns > MOST_OWNS_HERE or count_of(body) > MOST_STEPS_HERE:
            raise BadProgram("a work to be made anew has at most 20 steps and 10 own cells")


def count_of(body):
    """How many steps the body has, those within others too."""
    count = len(body)
    for step in body:
        if step[0] == "if":
            count += count_of(step[2]) + count_of(step[3])
    return count


def made_anew(program, ways, holds):
    return tuple([
        made_work(Making(program, ways, at, holds), work) for at, work in enumerate(program)
    ])


def made_work(making, work):
    params, owns, body = work
    steps = first_steps(making) + made_body(making, body) + last_steps(making)
    return params, owns_of(making), tuple(steps)


def owns_of(making):
    """How many own cells the work has then."""
    if not making.holds:
        return making.held
    return making.held + max([len(row) for row in making.ways])


def is_new(way):
    """Whether a work has a new cell of its own by the way."""
    return way in ("copy", "back")


def new_cell(making, k):
    return "own", making.owns + k


def first_steps(making):
    """The new cells get the numbers at the call, ahead of all other steps."""
    return [
        ("set", new_cell(making, k), ("par", k))
        for k, way in enumerate(making.row) if is_new(way)
    ]


def last_steps(making):
    """What is laid back is laid back, rising, behind all other steps."""
    return [
        ("set", ("par", k), new_cell(making, k))
        for k, way in enumerate(making.row) if way == "back"
    ]


def made_body(making, body):
    steps = []
    for step in body:
        steps.extend(made_steps(making, step))
    return steps


def made_steps(making, step):
    """The steps that stand for one step."""
    word = step[0]
    if word == "set":
        return [("set", made_thing(making, step[1]), made_thing(making, step[2]))]
    if word == "say":
        return [("say", made_thing(making, step[1]))]
    if word == "if":
        one = tuple(made_body(making, step[2]))
        other = tuple(made_body(making, step[3]))
        return [("if", made_thing(making, step[1]), one, other)]
    return made_call(making, step[1], step[2])


def made_thing(making, thing):
    """The thing, with the new cells of the work for the params that have one."""
    word = thing[0]
    if word == "sum":
        return "sum", made_thing(making, thing[1]), made_thing(making, thing[2])
    if word == "cell":
        return "cell", made_thing(making, thing[1])
    if word == "par" and is_new(making.row[thing[1]]):
        return new_cell(making, thing[1])
    return thing


def made_call(making, called, things):
    """The call, behind the steps that hold what it hands."""
    steps = []
    handed = []
    for k, way in enumerate(making.ways[called]):
        thing = made_thing(making, things[k])
        number = what_is_held(thing, way) if making.holds else None
        if number is not None:
            holder = ("own", making.held + k)
            steps.append(("set", holder, number))
            thing = ("cell", holder) if thing[0] == "cell" else holder
        handed.append(thing)
    return steps + [("call", called, tuple(handed))]


def what_is_held(thing, way):
    """The thing whose number at the call is held until its end, or None."""
    # A copy is taken by the called work, ahead of all of its other steps.
    if way == "copy":
        return None
    # Else a cell stays the one that it is at the call.
    if thing[0] == "cell" and thing[1][0] != "num":
        return thing[1]
    # By place, what is no place is a new cell; by back, nothing is laid back.
    if thing[0] in ("num", "sum") and way == "place":
        return thing
    return None
