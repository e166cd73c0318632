"""Counts: where the glass and the brass are that came."""

from lampring.lanterns import brass_in, standing


def tell_glass(shop):
    told = []
    for sort, there in enumerate(shop.stock):
        in_lanterns = sum([lantern.ring.count(sort) for lantern in standing(shop)])
        told.extend([there, in_lanterns, shop.panes_gone[sort]])
    return told


def tell_strips(shop):
    in_bands = sum([brass_in(lantern) for lantern in standing(shop)])
    return [shop.brass_come, in_bands, shop.scrap, shop.brass_gone, len(shop.strips)] + shop.strips
