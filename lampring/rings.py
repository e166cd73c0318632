"""Rings of panes: how they are told, which are the same, which may be set for a girth."""

from lampring.rows import all_rows

FEWEST_PANES = 3
MOST_PANES = 6
LEAST_GIRTH = 3
GREATEST_GIRTH = 60


def is_girth(girth):
    return LEAST_GIRTH <= girth <= GREATEST_GIRTH


def is_ring(shop, ring):
    """Whether it is as many panes as a ring has, of sorts that there are."""
    if not FEWEST_PANES <= len(ring) <= MOST_PANES:
        return False
    return all([sort < len(shop.widths) for sort in ring])


def spellings(ring):
    """The rows that tell the ring: beginning with any of its panes, this way round and that."""
    rows = []
    for way in (ring, list(reversed(ring))):
        for start in range(len(way)):
            rows.append(way[start:] + way[:start])
    return rows


def width_of(shop, ring):
    return sum([shop.widths[sort] for sort in ring])


def dark_place(shop, ring):
    """The first place whose pane and the one behind it are painted, or None."""
    for place in range(len(ring)):
        behind = (place + 1) % len(ring)
        if shop.painted[ring[place]] == 1 and shop.painted[ring[behind]] == 1:
            return place
    return None


def short_sort(shop, ring):
    """The lowest sort of which the ring has more than there are in stock, or None."""
    for sort, there in enumerate(shop.stock):
        if ring.count(sort) > there:
            return sort
    return None


def may_be_set(shop, girth, ring):
    if width_of(shop, ring) != girth:
        return False
    return dark_place(shop, ring) is None and short_sort(shop, ring) is None


def rings_to_set(shop, girth, panes):
    """The rings of so many panes that may be set, each once, by its first spelling, the first ring first."""
    rings = []
    for row in all_rows(len(shop.widths), panes):
        # A first spelling begins with the lowest sort: this cheap question spares most rows the dear ones.
        if row[0] == min(row) and may_be_set(shop, girth, row) and row == min(spellings(row)):
            rings.append(row)
    return rings


def first_ring(shop, girth):
    """Of the rings that may be set with the fewest panes the first; an empty list if there is none."""
    for panes in range(FEWEST_PANES, MOST_PANES + 1):
        rings = rings_to_set(shop, girth, panes)
        if len(rings) > 0:
            return rings[0]
    return []


def count_rings(shop, girth):
    if not is_girth(girth):
        return [-1]
    return [len(rings_to_set(shop, girth, panes)) for panes in range(FEWEST_PANES, MOST_PANES + 1)]


def tell_first(shop, girth):
    if not is_girth(girth):
        return [-1]
    ring = first_ring(shop, girth)
    if len(ring) == 0:
        return [-6]
    return [len(ring)] + ring


def tell_may(shop, girth, ring):
    if not is_girth(girth) or not is_ring(shop, ring):
        return [-1]
    if width_of(shop, ring) != girth:
        return [-2]
    place = dark_place(shop, ring)
    if place is not None:
        return [-3, place]
    sort = short_sort(shop, ring)
    if sort is not None:
        return [-4, sort]
    return [0]


def tell_same(shop, ring, other):
    if not is_ring(shop, ring) or not is_ring(shop, other):
        return [-1]
    return [1 if other in spellings(ring) else 0]
