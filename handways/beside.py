"""Ways beside one another: where two part, which come to the same, which mix."""

from handways.errors import BadProgram
from handways.programs import NUMBERS, WAYS, need_program, need_ways
from handways.running import COMMON_CELLS, done, numbers_of

MOST_PARAMS_IN_ALL = 3


def parted(program, one, other):
    """The first cells on which it comes out unlike by two ways, or None."""
    need_ways(program, one)
    need_ways(program, other)
    for cells in all_cells():
        if outcome(program, one, cells) != outcome(program, other, cells):
            return cells
    return None


def classes(program):
    """All ways in groups by which the program comes out alike on all cells."""
    need_program(program)
    if sum([work[0] for work in program]) > MOST_PARAMS_IN_ALL:
        raise BadProgram("classes takes a program with at most three params in all")
    groups = {}
    for ways in all_ways(program):
        told = tuple([outcome(program, ways, cells) for cells in all_cells()])
        if told not in groups:
            groups[told] = []
        groups[told].append(ways)
    # As the ways rise, so do the groups, and so do their first ones.
    return list(groups.values())


def mixed(program, ways):
    """The first cells on which the run is mixed, or None."""
    need_ways(program, ways)
    for cells in all_cells():
        if done(program, ways, cells).mixed:
            return cells
    return None


def outcome(program, ways, cells):
    """What was said, and the common cells at the end, as a key."""
    run = done(program, ways, cells)
    return tuple(run.said), numbers_of(run)


def all_cells():
    """All tuples of three numbers, as they rise."""
    told = [()]
    for k in range(COMMON_CELLS):
        told = [cells + (number,) for cells in told for number in range(NUMBERS)]
    return told


def all_ways(program):
    """All ways of a program, as they rise."""
    told = [()]
    for work in program:
        rows = all_rows(work[0])
        told = [ways + (row,) for ways in told for row in rows]
    return told


def all_rows(params):
    """All tuples of ways for so many params, as they rise."""
    rows = [()]
    for k in range(params):
        rows = [row + (way,) for row in rows for way in sorted(WAYS)]
    return rows
