import random
import unittest

import line
from lampring.bench import answers
from slow_shop import SlowShop

WIDTHS = ([10, 10, 10, 10], [5, 10, 15, 20], [7, 8, 9, 10], [1, 2, 3, 4], [3, 11, 4, 6], [9, 12, 9, 12])
KINDS = ("begin", "panes", "panes", "panes", "brass", "brass", "rings", "first", "may", "may", "same",
         "make", "make", "make", "make", "make", "make", "make", "mend", "mend", "mend", "mend",
         "fill", "fill", "fill", "fill", "night", "top", "top", "sell", "lantern", "lantern", "glass", "strips")
# The refusals of each call.
REFUSALS = {
    "begin": {-1}, "panes": {-9, -2, -1}, "brass": {-9, -1}, "rings": {-9, -1}, "first": {-9, -1, -6},
    "may": {-9, -1, -2, -3, -4}, "same": {-9, -1}, "make": {-9, -1, -5, -6, -7}, "mend": {-9, -2, -1, -6},
    "fill": {-9, -2, -1}, "night": {-9}, "top": {-9}, "sell": {-9, -2}, "lantern": {-9, -2}, "glass": {-9},
    "strips": {-9},
}
NO_SHOP = (("panes", 0, 1), ("brass", 1), ("rings", 30), ("first", 30), ("may", 30, [0, 0, 0]),
           ("same", [0, 0, 0], [0, 0, 0]), ("make", 30), ("mend", 0, 0), ("fill", 0, 1), ("night",), ("top",),
           ("sell", 0), ("lantern", 0), ("glass",), ("strips",))


def some_begin(chance):
    new = chance.choice((19, 20, 21, 199, 200, 201) if chance.random() < 0.1 else range(30, 201))
    widths = chance.choice(WIDTHS)
    sorts = [[widths[k], int(chance.random() < 0.3)] for k in range(chance.choice((1, 2, 3, 4, 4, 4)))]
    if chance.random() < 0.1:
        sorts[-1] = [chance.choice((0, 1, 20, 21)), chance.randrange(3), 1][:chance.choice((1, 2, 2, 2, 3))]
    if chance.random() < 0.05:
        sorts = (sorts * 5)[:chance.choice((0, 5, 6))]
    return "begin", new, *sorts


def some_ring(chance, slow):
    if chance.random() < 0.1:
        return [chance.randrange(10) for k in range(chance.randrange(11))]
    return [chance.randrange(len(slow.sorts)) for k in range(chance.choice((3, 3, 4, 4, 5, 6)))]


def some_pair(chance, slow):
    ring = some_ring(chance, slow)
    if chance.random() < 0.5 or not ring:
        return "same", ring, some_ring(chance, slow)
    start = chance.randrange(len(ring))
    other = ring[start:] + ring[:start]
    return "same", ring, other[::-1] if chance.random() < 0.5 else other


def some_girth(chance, slow, ring):
    """Mostly one that the ring's widths add up to."""
    if chance.random() < 0.1:
        return chance.choice((0, 2, 3, 30, 60, 61, 200))
    return min(200, sum(slow.sorts[sort][0] for sort in ring if sort < len(slow.sorts)))


def some_lantern(chance, slow):
    """Mostly one that stands."""
    if chance.random() < 0.1 or not slow.oil:
        return chance.choice((0, 1, 6, 100, len(slow.girths)))
    return chance.choice(sorted(slow.oil))


def some_call_on_a_lantern(chance, slow, kind):
    number = some_lantern(chance, slow)
    if kind == "mend":
        return kind, number, chance.choice((0, 0, 1, 2, 2, 3, 5, 9))
    if kind == "fill":
        room = slow.girths[number] ** 2 - slow.oil[number] if number in slow.oil else 100
        return kind, number, chance.choice((0, 1, min(99, room), room, room, room // 2, room // 3, room + 1, 5000))
    return kind, number


def some_call(chance, slow):
    kind = chance.choice(KINDS)
    if kind in ("night", "top", "glass", "strips"):
        return (kind,)
    if kind in ("mend", "fill", "sell", "lantern"):
        return some_call_on_a_lantern(chance, slow, kind)
    if kind == "begin":
        return some_begin(chance) if chance.random() < 0.2 else ("brass", 1)
    if kind == "panes":
        return kind, chance.randrange(len(slow.sorts) + 1), chance.choice((0, 1, 2, 3, 3, 4, 5, 6, 8, 20, 90, 200))
    if kind == "brass":
        return kind, chance.choice((0, 1, 1, 2, 3, 5, 20))
    if kind == "same":
        return some_pair(chance, slow)
    ring = some_ring(chance, slow)
    girth = some_girth(chance, slow, ring)
    return (kind, girth, ring) if kind == "may" else (kind, girth)


def some_stock(chance, slow):
    """Mostly as much as several lanterns want, then makes: else few would stand."""
    if chance.random() < 0.2:
        return []
    calls = [("panes", sort, chance.choice((3, 12, 30, 99))) for sort in range(len(slow.sorts))]
    calls.append(("brass", chance.randrange(4, 9)))
    for number in range(chance.randrange(9)):
        calls.append(("make", some_girth(chance, slow, some_ring(chance, slow))))
    return calls


def some_line(chance, slow):
    """Calls with what the slow shop answered to each."""
    calls, asked = [], []
    waiting = chance.sample(NO_SHOP, chance.randrange(4))
    while len(calls) < 60:
        if not waiting:
            waiting = [some_call(chance, slow) if slow.open else some_begin(chance)]
        call = waiting.pop(0)
        calls.append(call)
        asked.append(slow.ask(*call))
        if call[0] == "begin" and asked[-1] == [0]:
            waiting = some_stock(chance, slow)
    return calls, asked


def written(calls):
    return sum([getattr(line, call[0])(*call[1:]) for call in calls], [])


class AgainstSlow(unittest.TestCase):
    @classmethod
    def setUpClass(cls):
        chance = random.Random(20)
        cls.lines = [some_line(chance, SlowShop()) for number in range(100)]

    def test_lines(self):
        for number, (calls, asked) in enumerate(self.lines):
            told = line.apart(answers(written(calls)))
            for k in range(len(calls)):
                self.assertEqual(told[k], asked[k], (number, calls[:k + 1]))
            self.assertEqual(len(told), len(asked))

    def test_each_answer_is_among_them(self):
        seen = {}
        for calls, asked in self.lines:
            for call, answer in zip(calls, asked):
                seen.setdefault(call[0], set()).add(min(answer[0], 0))
        self.assertEqual(seen, {name: refusals | {0} for name, refusals in REFUSALS.items()})

    def test_handed_in_stays_and_nothing_is_kept(self):
        for calls, asked in self.lines:
            handed = written(calls)
            told = answers(handed)
            self.assertEqual(handed, written(calls))
            self.assertEqual(answers(handed), told)


if __name__ == "__main__":
    unittest.main()
