"""The bench: a line of calls is answered, call by call."""

from lampring.making import make_lantern
from lampring.reading import read_calls
from lampring.rings import count_rings, tell_first, tell_may, tell_same
from lampring.shop import add_panes, add_strips, begun_shop

BEGIN = 0
PANES = 1
BRASS = 2
RINGS = 3
FIRST = 4
MAY = 5
SAME = 6
MAKE = 7


def answers(calls):
    """For each call how many numbers are answered, then these."""
    shop = None
    given = []
    for number, numbers, lists in read_calls(calls):
        if number == BEGIN:
            begun = begun_shop(numbers[0], lists)
            answer = [-1] if begun is None else [0]
            # A refused begin leaves the shop that there was.
            shop = shop if begun is None else begun
        elif shop is None:
            answer = [-9]
        else:
            answer = answer_in(shop, number, numbers, lists)
        given.append(len(answer))
        given.extend(answer)
    return given


def answer_in(shop, number, numbers, lists):
    """What a call other than begin answers in this shop."""
    if number == PANES:
        return add_panes(shop, numbers[0], numbers[1])
    if number == BRASS:
        return add_strips(shop, numbers[0])
    if number == RINGS:
        return count_rings(shop, numbers[0])
    if number == FIRST:
        return tell_first(shop, numbers[0])
    if number == MAY:
        return tell_may(shop, numbers[0], lists[0])
    if number == SAME:
        return tell_same(shop, lists[0], lists[1])
    if number == MAKE:
        return make_lantern(shop, numbers[0])
    raise NotImplementedError(f"call {number}")
