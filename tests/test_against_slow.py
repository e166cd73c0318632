import random
import unittest

import line
from slow_shop import SlowShop

WIDTHS = ([10, 10, 10, 10], [5, 10, 15, 20], [7, 8, 9, 10], [1, 2, 3, 4], [3, 11, 4, 6], [9, 12, 9, 12])
KINDS = ("begin", "panes", "panes", "panes", "brass", "brass", "rings", "first", "may", "may", "same",
         "make", "make", "make", "make", "make", "make")


def some_begin(chance):
    new = chance.choice((19, 20, 21, 199, 200, 201) if chance.random() < 0.1 else range(30, 201))
    widths = chance.choice(WIDTHS)
    sorts = [[widths[k], int(chance.random() < 0.3)] for k in range(chance.choice((1, 2, 3, 4, 4, 4)))]
    if chance.random() < 0.1:
        sorts[-1] = [chance.choice((0, 1, 20, 21)), chance.randrange(3), 1][:chance.choice((1, 2, 2, 2, 3))]
    if chance.random() < 0.05:
        sorts = (sorts * 5)[:chance.choice((0, 5, 6))]
    return "begin", new, *sorts


def some_ring(chance, slow):
    if chance.random() < 0.1:
        return [chance.randrange(10) for k in range(chance.randrange(11))]
    return [chance.randrange(len(slow.sorts)) for k in range(chance.choice((3, 3, 4, 4, 5, 6)))]


def some_pair(chance, slow):
    ring = some_ring(chance, slow)
    if chance.random() < 0.5 or not ring:
        return "same", ring, some_ring(chance, slow)
    start = chance.randrange(len(ring))
    other = ring[start:] + ring[:start]
    return "same", ring, other[::-1] if chance.random() < 0.5 else other


def some_girth(chance, slow, ring):
    """Mostly one that the ring's widths add up to."""
    if chance.random() < 0.1:
        return chance.choice((0, 2, 3, 30, 60, 61, 200))
    return min(200, sum(slow.sorts[sort][0] for sort in ring if sort < len(slow.sorts)))


def some_call(chance, slow):
    kind = chance.choice(KINDS)
    if kind == "begin":
        return some_begin(chance) if chance.random() < 0.2 else ("brass", 1)
    if kind == "panes":
        return kind, chance.randrange(len(slow.sorts) + 1), chance.choice((0, 1, 2, 3, 3, 4, 5, 6, 8, 20, 90, 200))
    if kind == "brass":
        return kind, chance.choice((0, 1, 1, 2, 3, 5, 20))
    if kind == "same":
        return some_pair(chance, slow)
    ring = some_ring(chance, slow)
    girth = some_girth(chance, slow, ring)
    return (kind, girth, ring) if kind == "may" else (kind, girth)


def some_line(chance, slow):
    """Calls with what the slow shop answered to each."""
    calls = [("brass", 1), ("same", [0, 0, 0], [0, 0, 0])]
    asked = [slow.ask(*call) for call in calls]
    while len(calls) < 60:
        call = some_call(chance, slow) if slow.open else some_begin(chance)
        calls.append(call)
        asked.append(slow.ask(*call))
    return calls, asked


class AgainstSlow(unittest.TestCase):
    def test_lines(self):
        chance = random.Random(20)
        for number in range(60):
            calls, asked = some_line(chance, SlowShop())
            told = line.ask(*[getattr(line, call[0])(*call[1:]) for call in calls])
            for k in range(len(calls)):
                self.assertEqual(told[k], asked[k], (number, calls[:k + 1]))
            self.assertEqual(len(told), len(asked))


if __name__ == "__main__":
    unittest.main()
