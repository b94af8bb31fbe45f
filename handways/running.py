"""Runs: a program is run by ways, on three numbers."""

from handways.errors import BadCells
from handways.programs import NUMBERS, is_number, need_ways

COMMON_CELLS = 3


class Cell:
    """A common cell, an own cell, or one that is made at a call."""

    def __init__(self, number):
        self.number = number


class Frame:
    """One time that a work is done: its own cells, and what was handed to it.

    What was handed is a list with a Cell or a Want for each param.
    """

    def __init__(self, owns, handed):
        self.owns = owns
        self.handed = handed


class Want:
    """A thing that was handed by want, and the frame of the work that calls."""

    def __init__(self, thing, frame):
        self.thing = thing
        self.frame = frame


class Run:
    """A run: what is run, the common cells, and what was said up to now."""

    def __init__(self, program, ways, cells):
        self.program = program
        self.ways = ways
        self.commons = [Cell(number) for number in cells]
        self.said = []


def ran(program, ways, cells):
    """The numbers that were said, and those of the common cells at the end."""
    need_ways(program, ways)
    need_cells(cells)
    run = Run(program, ways, cells)
    do_work(run, 0, [])
    return run.said, tuple([cell.number for cell in run.commons])


def need_cells(cells):
    if not isinstance(cells, tuple) or len(cells) != COMMON_CELLS:
        raise BadCells("the common cells have three numbers")
    for number in cells:
        if not is_number(number):
            raise BadCells("a number is 0, 1 or 2")


def do_work(run, at, handed):
    params, owns, body = run.program[at]
    frame = Frame([Cell(0) for k in range(owns)], handed)
    do_body(run, frame, body)


def do_body(run, frame, body):
    for step in body:
        do_step(run, frame, step)


def do_step(run, frame, step):
    word = step[0]
    if word == "set":
        do_set(run, frame, step[1], step[2])
    elif word == "say":
        run.said.append(number_of(run, frame, step[1]))
    elif word == "if":
        chosen = step[3] if number_of(run, frame, step[1]) == 0 else step[2]
        do_body(run, frame, chosen)
    else:
        do_call(run, frame, step[1], step[2])


def do_set(run, frame, place, thing):
    cell = found(run, frame, place)
    # A param by want may stand for what is no place: then nothing is set.
    if cell is not None:
        cell.number = number_of(run, frame, thing)


def do_call(run, frame, called, things):
    ways = run.ways[called]
    handed = [handed_by(run, frame, thing, way) for thing, way in zip(things, ways)]
    # The places are found before the work is done, as it may change the
    # numbers by which they are found.
    places = [found(run, frame, thing) if way == "back" else None for thing, way in zip(things, ways)]
    do_work(run, called, handed)
    for place, cell in zip(places, handed):
        if place is not None:
            place.number = cell.number


def handed_by(run, frame, thing, way):
    """What is handed for a thing of the frame's work: a Cell or a Want."""
    if way == "want":
        return Want(thing, frame)
    if way == "place":
        cell = found(run, frame, thing)
        if cell is not None:
            return cell
    return Cell(number_of(run, frame, thing))


def found(run, frame, thing):
    """The cell that the thing is as it is found now; None if it is no place."""
    word = thing[0]
    if word == "cell":
        return run.commons[number_of(run, frame, thing[1])]
    if word == "own":
        return frame.owns[thing[1]]
    if word == "par":
        handed = frame.handed[thing[1]]
        if isinstance(handed, Want):
            return found(run, handed.frame, handed.thing)
        return handed
    return None


def number_of(run, frame, thing):
    """The thing's number now."""
    word = thing[0]
    if word == "num":
        return thing[1]
    if word == "sum":
        return (number_of(run, frame, thing[1]) + number_of(run, frame, thing[2])) % NUMBERS
    if word == "par":
        handed = frame.handed[thing[1]]
        if isinstance(handed, Want):
            return number_of(run, handed.frame, handed.thing)
        return handed.number
    return found(run, frame, thing).number
