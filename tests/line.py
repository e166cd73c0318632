"""Calls written as the interface asks, and answers taken apart call by call."""

from lampring.bench import answers


def call(number, numbers=(), lists=()):
    written = [number, len(numbers), *numbers, len(lists)]
    for row in lists:
        written += [len(row), *row]
    return written


def begin(new, *sorts):
    return call(0, [new], sorts)


def panes(sort, n):
    return call(1, [sort, n])


def brass(n):
    return call(2, [n])


def rings(girth):
    return call(3, [girth])


def first(girth):
    return call(4, [girth])


def may(girth, ring):
    return call(5, [girth], [ring])


def same(ring, other):
    return call(6, [], [ring, other])


def make(girth):
    return call(7, [girth])


def stocked(new, *sorts_and_stock):
    """begin and panes: each sort is its width, 0 or 1, and how many of it there are."""
    calls = [begin(new, *[sort[:2] for sort in sorts_and_stock])]
    calls += [panes(k, sort[2]) for k, sort in enumerate(sorts_and_stock)]
    return calls


def apart(given):
    """What answers gave back, as one list for each call."""
    told = []
    at = 0
    while at < len(given):
        told.append(given[at + 1:at + 1 + given[at]])
        at += 1 + given[at]
    return told


def ask(*calls):
    return apart(answers(sum(calls, [])))


def last(*calls):
    return ask(*calls)[-1]
