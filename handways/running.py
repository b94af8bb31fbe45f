"""Runs: a program is run by ways, on three numbers."""

from handways.errors import BadCells
from handways.programs import NUMBERS, is_number, need_ways

COMMON_CELLS = 3


class Cell:
    """A common cell, an own cell, or one that is made at a call.

    Its loans are the numbers of the lent things by which it is lent now.
    """

    def __init__(self, number):
        self.number = number
        self.loans = []


class Frame:
    """One time that a work is done: its own cells, and what was handed to it.

    What was handed is a list with a Cell or a Want for each param. Beside it
    stand the roads: for each param the loans through which the road to its
    Cell goes.
    """

    def __init__(self, owns):
        self.owns = [Cell(0) for k in range(owns)]
        self.handed = []
        self.roads = []


class Want:
    """A thing that was handed by want, and the frame of the work that calls."""

    def __init__(self, thing, frame):
        self.thing = thing
        self.frame = frame


class Run:
    """A run: what is run, the common cells, and what was said up to now.

    It also has how many places were lent up to now, and whether one that was
    lent was come to by a road that doesn't go through each of its loans.
    """

    def __init__(self, program, ways, cells):
        self.program = program
        self.ways = ways
        self.commons = [Cell(number) for number in cells]
        self.said = []
        self.lent = 0
        self.mixed = False


def ran(program, ways, cells):
    """The numbers that were said, and those of the common cells at the end."""
    need_ways(program, ways)
    need_cells(cells)
    run = done(program, ways, cells)
    return run.said, numbers_of(run)


def need_cells(cells):
    if not isinstance(cells, tuple) or len(cells) != COMMON_CELLS:
        raise BadCells("the common cells have three numbers")
    for number in cells:
        if not is_number(number):
            raise BadCells("a number is 0, 1 or 2")


def done(program, ways, cells):
    """The run at its end, of what may be handed in."""
    run = Run(program, ways, cells)
    params, owns, body = program[0]
    do_body(run, Frame(owns), body)
    return run


def numbers_of(run):
    """The numbers of the common cells."""
    return tuple([cell.number for cell in run.commons])


def do_body(run, frame, body):
    for step in body:
        do_step(run, frame, step)


def do_step(run, frame, step):
    word = step[0]
    if word == "set":
        do_set(run, frame, step[1], step[2])
    elif word == "say":
        run.said.append(number_of(run, frame, step[1]))
    elif word == "if":
        chosen = step[3] if number_of(run, frame, step[1]) == 0 else step[2]
        do_body(run, frame, chosen)
    else:
        do_call(run, frame, step[1], step[2])


def do_set(run, frame, place, thing):
    number = number_of(run, frame, thing)
    cell = found(run, frame, place)
    # A param by want may stand for what is no place: then nothing is set.
    if cell is not None:
        come_to(run, frame, place, cell)
        cell.number = number


def do_call(run, frame, called, things):
    params, owns, body = run.program[called]
    ways = run.ways[called]
    inner = Frame(owns)
    # The places are found before the work is done, as it may change the
    # numbers by which they are found.
    places = []
    for thing, way in zip(things, ways):
        places.append(hand(run, frame, inner, thing, way))
    do_body(run, inner, body)
    for place in places:
        if place is not None:
            # Calls end within one another, so this call's loan is the last one.
            place.loans.pop()
    for place, way, cell in zip(places, ways, inner.handed):
        if way == "back" and place is not None:
            place.number = cell.number


def hand(run, frame, inner, thing, way):
    """Hands a thing of the frame's work to the inner frame, by the way.

    It tells the place that is lent from now on; None if none is.
    """
    if way == "want":
        inner.handed.append(Want(thing, frame))
        inner.roads.append(())
        return None
    place = None if way == "copy" else found(run, frame, thing)
    if way == "place" and place is not None:
        come_to(run, frame, thing, place)
        inner.handed.append(place)
        inner.roads.append(road_of(frame, thing) + (run.lent,))
    else:
        inner.handed.append(Cell(number_of(run, frame, thing)))
        inner.roads.append(())
    if place is not None:
        # Lent only now, as its own number may have been asked just before.
        place.loans.append(run.lent)
        run.lent += 1
    return place


def come_to(run, frame, place, cell):
    """The cell is come to, as the place of the frame's work that it was found by."""
    if cell.loans:
        road = road_of(frame, place)
        for loan in cell.loans:
            if loan not in road:
                run.mixed = True


def road_of(frame, place):
    """The loans through which the road goes, by a place of the frame's work."""
    if place[0] != "par":
        return ()
    handed = frame.handed[place[1]]
    if isinstance(handed, Want):
        return road_of(handed.frame, handed.thing)
    return frame.roads[place[1]]


def found(run, frame, thing):
    """The cell that the thing is as it is found now; None if it is no place."""
    word = thing[0]
    if word == "cell":
        return run.commons[number_of(run, frame, thing[1])]
    if word == "own":
        return frame.owns[thing[1]]
    if word == "par":
        handed = frame.handed[thing[1]]
        if isinstance(handed, Want):
            return found(run, handed.frame, handed.thing)
        return handed
    return None


def number_of(run, frame, thing):
    """The thing's number now."""
    word = thing[0]
    if word == "num":
        return thing[1]
    if word == "sum":
        return (number_of(run, frame, thing[1]) + number_of(run, frame, thing[2])) % NUMBERS
    if word == "par":
        handed = frame.handed[thing[1]]
        if isinstance(handed, Want):
            return number_of(run, handed.frame, handed.thing)
    cell = found(run, frame, thing)
    come_to(run, frame, thing, cell)
    return cell.number
