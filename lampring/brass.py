"""Brass: the bands of a lantern, and how they are cut from strips."""

from lampring.rows import all_rows

SHORTEST_STRIP = 5


def bands_of(girth):
    return [girth + 4, girth + 2, girth + 2]


def lengths_left(strips, bands, cutting):
    """How long each strip is once the bands are cut; below 0 where more is cut than there is."""
    lengths = list(strips)
    for strip, band in zip(cutting, bands):
        lengths[strip] -= band
    return lengths


def can_be_cut(strips, bands, cutting):
    return all([length >= 0 for length in lengths_left(strips, bands, cutting)])


def rank_of(strips, bands, cutting):
    """What makes a cutting better than another, the weightiest first; the lower rank is the better."""
    begun = sorted(set(cutting))
    lengths = lengths_left(strips, bands, cutting)
    left_over = sum([lengths[strip] for strip in begun])
    return (len(begun), left_over, cutting)


def best_cutting(strips, bands):
    """For each band the strip it is cut from; an empty list if there is no cutting."""
    cuttings = [row for row in all_rows(len(strips), len(bands)) if can_be_cut(strips, bands, row)]
    return min(cuttings, key=lambda row: rank_of(strips, bands, row), default=[])


def strips_after(strips, bands, cutting):
    """The strips once the bands are cut, without the scrap."""
    # No strip that isn't begun is as short as scrap, so the length alone tells.
    return [length for length in lengths_left(strips, bands, cutting) if length >= SHORTEST_STRIP]
