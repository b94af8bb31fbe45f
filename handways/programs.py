"""Programs and ways: what they are, and the refusal of what is none."""

from handways.errors import BadProgram, BadWays

NUMBERS = 3
MOST_WORKS = 4
MOST_PARAMS = 3
MOST_OWNS = 99
MOST_STEPS = 100
MOST_OTHERS = 4
PLACES = ("cell", "own", "par")
WAYS = ("copy", "place", "back", "want")


def is_below(value, limit):
    """Whether it is a whole number from 0 to below the limit."""
    # True and False count as integers for Python, but are no numbers here.
    if isinstance(value, bool) or not isinstance(value, int):
        return False
    return 0 <= value < limit


def is_number(value):
    return is_below(value, NUMBERS)


def is_shaped(value, word, size):
    """Whether it is a tuple of that size with the word in front."""
    return isinstance(value, tuple) and len(value) == size and value[0] == word


def need_program(program):
    """Refuses, with BadProgram, what is no program."""
    if not isinstance(program, tuple) or not 1 <= len(program) <= MOST_WORKS:
        raise BadProgram("a program is a tuple of one to four works")
    # A call asks how many params a later work has, so all heads come first.
    for at, work in enumerate(program):
        need_head(at, work)
    for at, work in enumerate(program):
        need_body(program, at, work[2], 0, 0)


def need_head(at, work):
    if not isinstance(work, tuple) or len(work) != 3:
        raise BadProgram("a work is a tuple of params, owns and body")
    most = 0 if at == 0 else MOST_PARAMS
    if not is_below(work[0], most + 1):
        raise BadProgram("a work has 0 to 3 params, and work 0 has none")
    if not is_below(work[1], MOST_OWNS + 1):
        raise BadProgram("a work has 0 to 99 own cells")


def need_body(program, at, body, others, count):
    """The count of the work's steps, up to the end of this body.

    The body stands within so many other steps, and count steps of the work
    stand before it.
    """
    if not isinstance(body, tuple):
        raise BadProgram("a body is a tuple of steps")
    for step in body:
        count = need_step(program, at, step, others, count + 1)
    return count


def need_step(program, at, step, others, count):
    """The count of the work's steps, up to the end of this one."""
    # Checked at each step, so that what is far too large is refused early.
    if others > MOST_OTHERS or count > MOST_STEPS:
        raise BadProgram("a work has at most 100 steps, each within at most four others")
    work = program[at]
    if is_shaped(step, "set", 3):
        need_place(work, step[1])
        need_thing(work, step[2], 0)
    elif is_shaped(step, "say", 2):
        need_thing(work, step[1], 0)
    elif is_shaped(step, "if", 4):
        need_thing(work, step[1], 0)
        count = need_body(program, at, step[2], others + 1, count)
        count = need_body(program, at, step[3], others + 1, count)
    elif is_shaped(step, "call", 3):
        need_call(program, at, step[1], step[2])
    else:
        raise BadProgram("a step is set, say, if or call, with what belongs to it")
    return count


def need_call(program, at, called, things):
    if not is_below(called, len(program)) or called <= at:
        raise BadProgram("a later work is called")
    if not isinstance(things, tuple) or len(things) != program[called][0]:
        raise BadProgram("a work is handed as many things as it has params")
    for thing in things:
        need_thing(program[at], thing, 0)


def need_place(work, place):
    need_thing(work, place, 0)
    if place[0] not in PLACES:
        raise BadProgram("a place is set")


def need_thing(work, thing, others):
    """Refuses what is no thing of the work, within so many other things."""
    if others > MOST_OTHERS:
        raise BadProgram("a thing stands within at most four others")
    if is_shaped(thing, "sum", 3):
        need_thing(work, thing[1], others + 1)
        need_thing(work, thing[2], others + 1)
    elif is_shaped(thing, "cell", 2):
        need_thing(work, thing[1], others + 1)
    elif not is_plain(work, thing):
        raise BadProgram("a thing is num, sum, cell, own or par, with what belongs to it")


def is_plain(work, thing):
    """Whether it is a thing of the work without others in it."""
    if is_shaped(thing, "num", 2):
        return is_number(thing[1])
    if is_shaped(thing, "own", 2):
        return is_below(thing[1], work[1])
    return is_shaped(thing, "par", 2) and is_below(thing[1], work[0])


def need_ways(program, ways):
    """Refuses what is no program, and then, with BadWays, what is no ways of it."""
    need_program(program)
    if not isinstance(ways, tuple) or len(ways) != len(program):
        raise BadWays("ways have a tuple for each work")
    for work, row in zip(program, ways):
        if not isinstance(row, tuple) or len(row) != work[0]:
            raise BadWays("ways have a text for each param")
        for way in row:
            if way not in WAYS:
                raise BadWays("a way is copy, place, back or want")
