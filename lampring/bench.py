"""The bench: a line of calls is answered, call by call."""

from lampring.counts import tell_glass, tell_strips
from lampring.lanterns import sell_lantern, tell_lantern
from lampring.making import make_lantern
from lampring.mending import mend_lantern
from lampring.oil import burn_night, fill_lantern, top_lanterns
from lampring.reading import read_calls
from lampring.rings import count_rings, tell_first, tell_may, tell_same
from lampring.shop import add_panes, add_strips, begun_shop

BEGIN = 0
PANES = 1
BRASS = 2
RINGS = 3
FIRST = 4
MAY = 5
SAME = 6
MAKE = 7
MEND = 8
FILL = 9
NIGHT = 10
TOP = 11
SELL = 12
LANTERN = 13
GLASS = 14
STRIPS = 15


def answers(calls):
    """For each call how many numbers are answered, then these."""
    shop = None
    given = []
    for number, numbers, lists in read_calls(calls):
        if number == BEGIN:
            begun = begun_shop(numbers[0], lists)
            answer = [-1] if begun is None else [0]
            # A refused begin leaves the shop that there was.
            shop = shop if begun is None else begun
        elif shop is None:
            answer = [-9]
        else:
            answer = answer_in(shop, number, numbers, lists)
        given.append(len(answer))
        given.extend(answer)
    return given


def answer_in(shop, number, numbers, lists):
    """What a call other than begin answers in this shop."""
    if number == PANES:
        return add_panes(shop, numbers[0], numbers[1])
    if number == BRASS:
        return add_strips(shop, numbers[0])
    if number == RINGS:
        return count_rings(shop, numbers[0])
    if number == FIRST:
        return tell_first(shop, numbers[0])
    if number == MAY:
        return tell_may(shop, numbers[0], lists[0])
    if number == SAME:
        return tell_same(shop, lists[0], lists[1])
    if number == MAKE:
        return make_lantern(shop, numbers[0])
    if number == MEND:
        return mend_lantern(shop, numbers[0], numbers[1])
    if number == FILL:
        return fill_lantern(shop, numbers[0], numbers[1])
    if number == NIGHT:
        return burn_night(shop)
    if number == TOP:
        return top_lanterns(shop)
    if number == SELL:
        return sell_lantern(shop, numbers[0])
    if number == LANTERN:
        return tell_lantern(shop, numbers[0])
    if number == GLASS:
        return tell_glass(shop)
    if number == STRIPS:
        return tell_strips(shop)
    raise ValueError(f"there is no call {number}")
