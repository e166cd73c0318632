"""Oil: how it is filled in, burnt, and poured together and shared out anew."""

from lampring.lanterns import oil_when_full, standing
from lampring.rows import all_rows

BURNT_PART = 50


def fill_lantern(shop, number, n):
    lantern = shop.lanterns.get(number)
    if lantern is None:
        return [-2]
    if lantern.oil + n > oil_when_full(lantern):
        return [-1]
    lantern.oil += n
    return [lantern.oil]


def burn_night(shop):
    burnt = 0
    for lantern in standing(shop):
        burns = burnt_in_a_night(shop, lantern)
        lantern.oil -= burns
        burnt += burns
    return [burnt]


def burnt_in_a_night(shop, lantern):
    painted = sum([shop.painted[sort] for sort in lantern.ring])
    return min(painted + lantern.oil // BURNT_PART, lantern.oil)


def top_lanterns(shop):
    lanterns = standing(shop)
    poured = sum([lantern.oil for lantern in lanterns])
    holds = [oil_when_full(lantern) for lantern in lanterns]
    full = full_ones(holds, poured)
    shares = shares_of(holds, full, poured)
    for lantern, share in zip(lanterns, shares):
        lantern.oil = share
    return [sum(full)] + shares


def oil_in_full(holds, full):
    return sum([held for held, is_full in zip(holds, full) if is_full == 1])


def full_ones(holds, poured):
    """The best way to have lanterns full of what is poured together: for each 1 if it is full, else 0."""
    ways = [row for row in all_rows(2, len(holds)) if oil_in_full(holds, row) <= poured]
    # Where two rows first differ the greater one has the 1, so of as good ways it is the greatest row.
    return max(ways, key=lambda row: (sum(row), oil_in_full(holds, row), row))


def shares_of(holds, full, poured):
    """How much each lantern has, once these are full and the first of the others has what is left."""
    left = poured - oil_in_full(holds, full)
    shares = []
    for held, is_full in zip(holds, full):
        if is_full == 1:
            shares.append(held)
        else:
            # It holds that: else it would be full too, and one more is better.
            shares.append(left)
            left = 0
    return shares
