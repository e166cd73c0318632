"""Mending lanterns: a pane that breaks, and the one that stands in its place."""

from lampring.rings import dark_place


def mend_lantern(shop, number, place):
    lantern = shop.lanterns.get(number)
    if lantern is None:
        return [-2]
    if place >= len(lantern.ring):
        return [-1]
    sort = mending_sort(shop, lantern.ring, place)
    if sort is None:
        return [-6]
    shop.panes_gone[lantern.ring[place]] += 1
    shop.stock[sort] -= 1
    lantern.ring[place] = sort
    return [sort]


def mending_sort(shop, ring, place):
    """The lowest sort of which a pane out of the stock does at that place, or None."""
    for sort in range(len(shop.stock)):
        if can_mend(shop, ring, place, sort):
            return sort
    return None


def can_mend(shop, ring, place, sort):
    if shop.stock[sort] == 0 or shop.widths[sort] != shop.widths[ring[place]]:
        return False
    mended = ring[:place] + [sort] + ring[place + 1:]
    return dark_place(shop, mended) is None
