"""The shop: its sorts of panes, its stock, its strips and its lanterns."""

SHORTEST_NEW = 20
LONGEST_NEW = 200
MOST_SORTS = 4
WIDEST = 20
MOST_PANES_IN_STOCK = 99
MOST_STRIPS = 8


class Lantern:
    """A lantern that stands: its girth, the sorts of its panes place by place, its measures of oil."""

    def __init__(self, girth, ring):
        self.girth = girth
        self.ring = ring
        self.oil = 0


class Shop:
    """A shop without panes, strips and lanterns; sorts are pairs of a width and 0 or 1."""

    def __init__(self, new, sorts):
        self.new = new
        self.widths = [sort[0] for sort in sorts]
        self.painted = [sort[1] for sort in sorts]
        self.stock = [0 for sort in sorts]
        self.panes_gone = [0 for sort in sorts]
        self.strips = []
        self.brass_come = 0
        self.scrap = 0
        self.brass_gone = 0
        self.lanterns = {}
        # Numbers of lanterns are never used again, so how many stand doesn't tell the next one.
        self.made = 0


def is_sort(sort):
    return len(sort) == 2 and 1 <= sort[0] <= WIDEST and sort[1] in (0, 1)


def begun_shop(new, sorts):
    """A new shop; None if these can't be a shop's."""
    if not SHORTEST_NEW <= new <= LONGEST_NEW:
        return None
    if not 1 <= len(sorts) <= MOST_SORTS:
        return None
    if not all([is_sort(sort) for sort in sorts]):
        return None
    return Shop(new, sorts)


def add_panes(shop, sort, n):
    if sort >= len(shop.stock):
        return [-2]
    if shop.stock[sort] + n > MOST_PANES_IN_STOCK:
        return [-1]
    shop.stock[sort] += n
    return [shop.stock[sort]]


def add_strips(shop, n):
    if len(shop.strips) + n > MOST_STRIPS:
        return [-1]
    for strip in range(n):
        shop.strips.append(shop.new)
    shop.brass_come += n * shop.new
    return [len(shop.strips)]
