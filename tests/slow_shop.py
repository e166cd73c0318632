"""The document's words once more, as plainly and slowly as can be, to compare the program with."""

from itertools import product


def told_anew(ring):
    n = len(ring)
    return {tuple(ring[(start + way * k) % n] for k in range(n)) for start in range(n) for way in (1, -1)}


class SlowShop:
    def __init__(self):
        self.open = False

    def begin(self, new, *sorts):
        fine = new in range(20, 201) and len(sorts) in range(1, 5)
        if not fine or any(len(s) != 2 or s[0] not in range(1, 21) or s[1] not in range(2) for s in sorts):
            return [-1]
        self.open = True
        self.new, self.sorts = new, sorts
        self.stock, self.strips, self.made = [0] * len(sorts), [], []
        return [0]

    def panes(self, sort, n):
        if sort not in range(len(self.sorts)):
            return [-2]
        if self.stock[sort] + n > 99:
            return [-1]
        self.stock[sort] += n
        return [self.stock[sort]]

    def brass(self, n):
        if len(self.strips) + n > 8:
            return [-1]
        self.strips += [self.new] * n
        return [len(self.strips)]

    def wrong_ring(self, ring):
        return len(ring) not in range(3, 7) or any(sort >= len(self.sorts) for sort in ring)

    def may(self, girth, ring):
        if girth not in range(3, 61) or self.wrong_ring(ring):
            return [-1]
        if sum(self.sorts[sort][0] for sort in ring) != girth:
            return [-2]
        for place, pair in enumerate(zip(ring, tuple(ring[1:]) + tuple(ring[:1]))):
            if all(self.sorts[sort][1] for sort in pair):
                return [-3, place]
        for sort in sorted(ring):
            if list(ring).count(sort) > self.stock[sort]:
                return [-4, sort]
        return [0]

    def set_rows(self, girth, n):
        return [row for row in product(range(len(self.sorts)), repeat=n) if self.may(girth, row) == [0]]

    def rings(self, girth):
        if girth not in range(3, 61):
            return [-1]
        return [len({frozenset(told_anew(row)) for row in self.set_rows(girth, n)}) for n in range(3, 7)]

    def first(self, girth):
        if girth not in range(3, 61):
            return [-1]
        rows = [(n, *row) for n in range(3, 7) for row in self.set_rows(girth, n)]
        return list(min(rows)) if rows else [-6]

    def same(self, ring, other):
        if self.wrong_ring(ring) or self.wrong_ring(other):
            return [-1]
        return [int(told_anew(ring) == told_anew(other))]

    def cuttings(self, girth):
        for cutting in product(range(len(self.strips)), repeat=3):
            left = dict(enumerate(self.strips))
            for strip, band in zip(cutting, (girth + 4, girth + 2, girth + 2)):
                left[strip] -= band
            if min(left.values()) >= 0:
                yield len(set(cutting)), sum(left[strip] for strip in set(cutting)), cutting, left

    def make(self, girth):
        ring = self.first(girth)
        if ring == [-1]:
            return [-1]
        if len(self.made) == 6:
            return [-5]
        if ring == [-6]:
            return [-6]
        cuttings = sorted(self.cuttings(girth), key=lambda told: told[:3])
        if not cuttings:
            return [-7]
        cutting, left = cuttings[0][2:]
        self.strips = [left[k] for k in sorted(left) if k not in cutting or left[k] >= 5]
        for sort in ring[1:]:
            self.stock[sort] -= 1
        self.made.append(ring)
        return [len(self.made) - 1, *ring, *cutting]

    def ask(self, name, *given):
        if name != "begin" and not self.open:
            return [-9]
        return getattr(self, name)(*given)
