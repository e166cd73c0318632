"""Calls written as the interface asks, and answers taken apart call by call."""

from lampring.bench import answers


def call(number, numbers=(), lists=()):
    written = [number, len(numbers), *numbers, len(lists)]
    for row in lists:
        written += [len(row), *row]
    return written


def begin(new, *sorts):
    return call(0, [new], sorts)


def panes(sort, n):
    return call(1, [sort, n])


def brass(n):
    return call(2, [n])


def rings(girth):
    return call(3, [girth])


def first(girth):
    return call(4, [girth])


def may(girth, ring):
    return call(5, [girth], [ring])


def same(ring, other):
    return call(6, [], [ring, other])


def make(girth):
    return call(7, [girth])


def mend(number, place):
    return call(8, [number, place])


def fill(number, n):
    return call(9, [number, n])


def night():
    return call(10)


def top():
    return call(11)


def sell(number):
    return call(12, [number])


def lantern(number):
    return call(13, [number])


def glass():
    return call(14)


def strips():
    return call(15)


def stocked(new, *sorts_and_stock):
    """begin and panes: each sort is its width, 0 or 1, and how many of it there are."""
    calls = [begin(new, *[sort[:2] for sort in sorts_and_stock])]
    calls += [panes(k, sort[2]) for k, sort in enumerate(sorts_and_stock)]
    return calls


def lit(girths, oils=(), sorts=((1, 0, 99), (2, 0, 99), (5, 0, 99), (20, 0, 99))):
    """A shop in which lanterns of these girths stand, with so much oil each."""
    calls = stocked(200, *sorts)
    for girth in girths:
        calls += [brass(1), make(girth)]
    return calls + [fill(number, oil) for number, oil in enumerate(oils)]


def apart(given):
    """What answers gave back, as one list for each call."""
    told = []
    at = 0
    while at < len(given):
        told.append(given[at + 1:at + 1 + given[at]])
        at += 1 + given[at]
    return told


def ask(*calls):
    return apart(answers(sum(calls, [])))


def last(*calls):
    return ask(*calls)[-1]


def left_as_it_was(calls, refused):
    """What is answered to the refused call, and whether all that a shop tells is the same before and behind it."""
    tell = [lantern(number) for number in range(8)] + [glass(), strips()]
    told = ask(*calls, *tell, refused, *tell)[len(calls):]
    return told[len(tell)], told[:len(tell)] == told[len(tell) + 1:]
