"""Who may set what: the params that a work may set, itself or by later works."""

from handways.programs import need_ways


def may_set(program, ways):
    """For each work True or False for each param: whether it may set that one."""
    need_ways(program, ways)
    told = [()] * len(program)
    # Only later works are called, so what they set is known by then.
    for at in reversed(range(len(program))):
        params, owns, body = program[at]
        marks = [False] * params
        mark_body(ways, told, body, marks)
        told[at] = tuple(marks)
    return tuple(told)


def mark_body(ways, told, body, marks):
    """Marks the params that the steps of the body may set."""
    for step in body:
        if step[0] == "set":
            mark(step[1], marks)
        elif step[0] == "if":
            mark_body(ways, told, step[2], marks)
            mark_body(ways, told, step[3], marks)
        elif step[0] == "call":
            mark_handed(ways[step[1]], told[step[1]], step[2], marks)


def mark_handed(row, sets, things, marks):
    """Marks the params that are handed to a work that may set them."""
    for thing, way, is_set in zip(things, row, sets):
        # What is set of a copy is not set of the param.
        if is_set and way != "copy":
            mark(thing, marks)


def mark(thing, marks):
    if thing[0] == "par":
        marks[thing[1]] = True
