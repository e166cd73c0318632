"""Making lanterns."""

from lampring.brass import bands_of, best_cutting, strips_after
from lampring.rings import first_ring, is_girth
from lampring.shop import Lantern

MOST_LANTERNS = 6


def make_lantern(shop, girth):
    if not is_girth(girth):
        return [-1]
    if len(shop.lanterns) >= MOST_LANTERNS:
        return [-5]
    ring = first_ring(shop, girth)
    if len(ring) == 0:
        return [-6]
    bands = bands_of(girth)
    cutting = best_cutting(shop.strips, bands)
    if len(cutting) == 0:
        return [-7]
    cut_bands(shop, bands, cutting)
    number = stand_lantern(shop, girth, ring)
    return [number, len(ring)] + ring + cutting


def cut_bands(shop, bands, cutting):
    left = strips_after(shop.strips, bands, cutting)
    shop.scrap += sum(shop.strips) - sum(bands) - sum(left)
    shop.strips = left


def stand_lantern(shop, girth, ring):
    """Take the panes out of the stock and stand the lantern; gives back its number."""
    for sort in ring:
        shop.stock[sort] -= 1
    number = shop.made
    shop.lanterns[number] = Lantern(girth, ring)
    shop.made += 1
    return number
