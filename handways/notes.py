"""Texts: a program is written as a line for each work, and is read again."""

from handways.errors import BadText
from handways.programs import need_program

FIGURES = "0123456789"
MOST_FIGURES = 2
# What stands behind each word, in order. Behind "(" and "call" stand as many
# as there are, up to a word that ends them.
TAKES = {
    "+": ("thing", "thing"),
    "cell": ("thing",),
    "own": ("number",),
    "par": ("number",),
    "set": ("thing", "thing"),
    "say": ("thing",),
    "if": ("thing", "body", "body"),
}
THINGS = ("+", "cell", "own", "par")
ENDS = (")", ".")


class Item:
    """What some words of a line tell: its kind, and what is told.

    The kinds are number, thing, step, body, and the words that end something.
    """

    def __init__(self, kind, told):
        self.kind = kind
        self.told = told


def written(program):
    """The text of a program."""
    need_program(program)
    return "\n".join([" ".join(work_words(work)) for work in program])


def work_words(work):
    params, owns, body = work
    return [str(params), str(owns)] + body_words(body)


def body_words(body):
    words = []
    for step in body:
        words.extend(step_words(step))
    return words


def step_words(step):
    word = step[0]
    if word == "call":
        return ["call", str(step[1])] + things_words(step[2]) + ["."]
    if word == "if":
        bodies = ["("] + body_words(step[2]) + [")", "("] + body_words(step[3]) + [")"]
        return ["if"] + thing_words(step[1]) + bodies
    return [word] + things_words(step[1:])


def things_words(things):
    words = []
    for thing in things:
        words.extend(thing_words(thing))
    return words


def thing_words(thing):
    word = thing[0]
    if word == "num":
        return [str(thing[1])]
    if word == "sum":
        return ["+"] + things_words(thing[1:])
    if word == "cell":
        return ["cell"] + thing_words(thing[1])
    return [word, str(thing[1])]


def read(text):
    """The program of a text."""
    works = []
    for row, line in enumerate(text.split("\n")):
        work = read_work(line.split(" "))
        if work is None:
            raise BadText(row)
        works.append(work)
    program = tuple(works)
    need_program(program)
    return program


def read_work(words):
    """The work of a line's words; None if they can't be so."""
    items = []
    # From behind, as then all that a word takes is known when it is come to:
    # no line, however deep, needs deep calls.
    for word in reversed(words):
        item = read_word(word, items)
        if item is None:
            return None
        items.append(item)
    head = taken(items, ("number", "number"))
    steps = taken_all(items, "step")
    if head is None or items:
        return None
    return head[0], head[1], steps


def read_word(word, items):
    """The item that the word makes of those behind it; None if it can't be so.

    The items behind it are a list with the nearest one last; those that the
    word takes are taken from it.
    """
    if is_figures(word):
        return Item("number", int(word))
    if word in ENDS:
        return Item(word, None)
    if word == "(":
        return read_body(items)
    if word == "call":
        return read_call(items)
    told = taken(items, TAKES[word]) if word in TAKES else None
    if told is None:
        return None
    if word in THINGS:
        return Item("thing", ("sum" if word == "+" else word, *told))
    return Item("step", (word, *told))


def is_figures(word):
    """Whether it is a number of one or two figures without a needless 0."""
    if not 1 <= len(word) <= MOST_FIGURES or (len(word) > 1 and word[0] == "0"):
        return False
    return all([sign in FIGURES for sign in word])


def read_body(items):
    steps = taken_all(items, "step")
    return None if taken(items, (")",)) is None else Item("body", steps)


def read_call(items):
    called = taken(items, ("number",))
    things = taken_all(items, "thing")
    if called is None or taken(items, (".",)) is None:
        return None
    return Item("step", ("call", called[0], things))


def taken(items, kinds):
    """Takes away items of these kinds, in order; None if others lie there."""
    told = []
    for kind in kinds:
        if not items or not is_kind(items[-1], kind):
            return None
        told.append(told_as(items.pop(), kind))
    return told


def taken_all(items, kind):
    """Takes away all items of the kind, up to one of another kind."""
    told = []
    while items and is_kind(items[-1], kind):
        told.append(told_as(items.pop(), kind))
    return tuple(told)


def is_kind(item, kind):
    """Whether the item is of the kind; a number may be taken as a thing, too."""
    return item.kind == kind or (item.kind == "number" and kind == "thing")


def told_as(item, kind):
    """What the item tells where that kind is asked."""
    if item.kind == "number" and kind == "thing":
        return "num", item.told
    return item.told
