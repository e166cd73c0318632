"""The document's words once more, as plainly and slowly as can be, to compare the program with."""

from itertools import combinations, product


def told_anew(ring):
    n = len(ring)
    return {tuple(ring[(start + way * k) % n] for k in range(n)) for start in range(n) for way in (1, -1)}


class SlowShop:
    def __init__(self):
        self.open = False

    def begin(self, new, *sorts):
        fine = new in range(20, 201) and len(sorts) in range(1, 5)
        if not fine or any(len(s) != 2 or s[0] not in range(1, 21) or s[1] not in range(2) for s in sorts):
            return [-1]
        self.open = True
        self.new, self.sorts = new, sorts
        self.stock, self.strips = [0] * len(sorts), []
        self.girths, self.rings_of, self.oil, self.sold = [], {}, {}, []
        self.panes_come, self.brass_come = [0] * len(sorts), 0
        return [0]

    def panes(self, sort, n):
        if sort not in range(len(self.sorts)):
            return [-2]
        if self.stock[sort] + n > 99:
            return [-1]
        self.stock[sort] += n
        self.panes_come[sort] += n
        return [self.stock[sort]]

    def brass(self, n):
        if len(self.strips) + n > 8:
            return [-1]
        self.strips += [self.new] * n
        self.brass_come += self.new * n
        return [len(self.strips)]

    def wrong_ring(self, ring):
        return len(ring) not in range(3, 7) or any(sort >= len(self.sorts) for sort in ring)

    def may(self, girth, ring):
        if girth not in range(3, 61) or self.wrong_ring(ring):
            return [-1]
        if sum(self.sorts[sort][0] for sort in ring) != girth:
            return [-2]
        for place, pair in enumerate(zip(ring, tuple(ring[1:]) + tuple(ring[:1]))):
            if all(self.sorts[sort][1] for sort in pair):
                return [-3, place]
        for sort in sorted(ring):
            if list(ring).count(sort) > self.stock[sort]:
                return [-4, sort]
        return [0]

    def set_rows(self, girth, n):
        return [row for row in product(range(len(self.sorts)), repeat=n) if self.may(girth, row) == [0]]

    def rings(self, girth):
        if girth not in range(3, 61):
            return [-1]
        return [len({frozenset(told_anew(row)) for row in self.set_rows(girth, n)}) for n in range(3, 7)]

    def first(self, girth):
        if girth not in range(3, 61):
            return [-1]
        rows = [(n, *row) for n in range(3, 7) for row in self.set_rows(girth, n)]
        return list(min(rows)) if rows else [-6]

    def same(self, ring, other):
        if self.wrong_ring(ring) or self.wrong_ring(other):
            return [-1]
        return [int(told_anew(ring) == told_anew(other))]

    def cuttings(self, girth):
        for cutting in product(range(len(self.strips)), repeat=3):
            left = dict(enumerate(self.strips))
            for strip, band in zip(cutting, (girth + 4, girth + 2, girth + 2)):
                left[strip] -= band
            if min(left.values()) >= 0:
                yield len(set(cutting)), sum(left[strip] for strip in set(cutting)), cutting, left

    def make(self, girth):
        ring = self.first(girth)
        if ring == [-1]:
            return [-1]
        if len(self.rings_of) == 6:
            return [-5]
        if ring == [-6]:
            return [-6]
        cuttings = sorted(self.cuttings(girth), key=lambda told: told[:3])
        if not cuttings:
            return [-7]
        cutting, left = cuttings[0][2:]
        self.strips = [left[k] for k in sorted(left) if k not in cutting or left[k] >= 5]
        for sort in ring[1:]:
            self.stock[sort] -= 1
        number = len(self.girths)
        self.girths.append(girth)
        self.rings_of[number], self.oil[number] = ring[1:], 0
        return [number, *ring, *cutting]

    def mend(self, number, place):
        if number not in self.rings_of:
            return [-2]
        ring = self.rings_of[number]
        if place not in range(len(ring)):
            return [-1]
        beside = ring[place - 1], ring[(place + 1) % len(ring)]
        width = self.sorts[ring[place]][0]
        for sort, there in enumerate(self.stock):
            painted = self.sorts[sort][1] and any(self.sorts[other][1] for other in beside)
            if there and self.sorts[sort][0] == width and not painted:
                ring[place] = sort
                self.stock[sort] -= 1
                return [sort]
        return [-6]

    def fill(self, number, n):
        if number not in self.oil:
            return [-2]
        if self.oil[number] + n > self.girths[number] ** 2:
            return [-1]
        self.oil[number] += n
        return [self.oil[number]]

    def night(self):
        before = sum(self.oil.values())
        for number, ring in self.rings_of.items():
            fiftieth = (self.oil[number] - self.oil[number] % 50) // 50
            self.oil[number] = max(0, self.oil[number] - fiftieth - sum(self.sorts[sort][1] for sort in ring))
        return [before - sum(self.oil.values())]

    def top(self):
        poured, numbers = sum(self.oil.values()), sorted(self.oil)
        holds = {number: self.girths[number] ** 2 for number in numbers}
        ways = [way for n in range(7) for way in combinations(numbers, n) if sum(holds[k] for k in way) <= poured]
        full = min(ways, key=lambda way: (-len(way), -sum(holds[k] for k in way), way))
        self.oil = {number: holds[number] if number in full else 0 for number in numbers}
        others = [number for number in numbers if number not in full]
        if others:
            self.oil[others[0]] = poured - sum(self.oil.values())
        return [len(full)] + [self.oil[number] for number in numbers]

    def sell(self, number):
        if number not in self.oil:
            return [-2]
        self.sold.append(number)
        self.rings_of.pop(number)
        return [self.oil.pop(number)]

    def lantern(self, number):
        if number not in self.oil:
            return [-2]
        ring = self.rings_of[number]
        return [self.girths[number], self.oil[number], len(ring), *ring]

    def glass(self):
        told = []
        for sort, there in enumerate(self.stock):
            stand = sum(ring.count(sort) for ring in self.rings_of.values())
            # What neither is in stock nor stands is gone.
            told += [there, stand, self.panes_come[sort] - there - stand]
        return told

    def strips_told(self):
        stand = sum(3 * self.girths[number] + 8 for number in self.rings_of)
        gone = sum(3 * self.girths[number] + 8 for number in self.sold)
        # What is neither a strip nor in bands is scrap.
        scrap = self.brass_come - stand - gone - sum(self.strips)
        return [self.brass_come, stand, scrap, gone, len(self.strips), *self.strips]

    def ask(self, name, *given):
        if name != "begin" and not self.open:
            return [-9]
        return getattr(self, "strips_told" if name == "strips" else name)(*given)
