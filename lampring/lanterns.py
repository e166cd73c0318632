"""Lanterns that stand: what they are, how they are told, and how they are sold."""

from lampring.brass import bands_of


def standing(shop):
    """The lanterns that stand, by their numbers."""
    return [shop.lanterns[number] for number in sorted(shop.lanterns)]


def oil_when_full(lantern):
    return lantern.girth * lantern.girth


def brass_in(lantern):
    return sum(bands_of(lantern.girth))


def tell_lantern(shop, number):
    lantern = shop.lanterns.get(number)
    if lantern is None:
        return [-2]
    return [lantern.girth, lantern.oil, len(lantern.ring)] + lantern.ring


def sell_lantern(shop, number):
    lantern = shop.lanterns.get(number)
    if lantern is None:
        return [-2]
    for sort in lantern.ring:
        shop.panes_gone[sort] += 1
    shop.brass_gone += brass_in(lantern)
    shop.lanterns.pop(number)
    return [lantern.oil]
