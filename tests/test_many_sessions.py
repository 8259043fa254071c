"""Long sessions of calls drawn by a written seed, beside a slow and plain account of the same mould."""

import random
import unittest

from blademould.calls import answer_call
from blademould.mould import Mould
from tests.helper import MOST, ask, start


class Account:
    """What each call answers, by counting layers, ends and plies anew each time."""

    def __init__(self):
        self.need = None

    def ends(self, spans):
        return [sum((a == b) + (e == b) for a, e in spans) for b in range(1, len(self.need))]

    def few_ends(self, more):
        return all(n <= self.most for n in self.ends([ply[:2] for ply in self.plies if ply] + more))

    def lacks(self, b):
        return self.need[b] - sum(1 for ply in self.plies if ply and b in range(ply[0], ply[1]))

    def all_lack(self):
        return [self.lacks(b) for b in range(len(self.need))]

    def plan(self):
        left, spans = self.all_lack(), []
        while any(left):
            inside = False
            for b, layers in enumerate(left):
                if layers and not inside:
                    spans.append((b, b))
                if layers:
                    spans[-1] = (spans[-1][0], b + 1)
                    left[b] -= 1
                inside = layers > 0
        return spans

    def start(self, long, ends, count, *need):
        if long not in range(1, 101) or ends not in range(1, 21) or count not in range(1, 13) or max(need) > 12:
            return [-22]
        self.long, self.most, self.need = long, ends, list(need)
        self.plies, self.fabric_of_kind = [None] * 40, [0, 0, 0, 0]
        return [count]

    def set(self, i, n):
        if i >= len(self.need) or n > 12:
            return [-22]
        if self.need[i] - self.lacks(i) > n:
            return [-16]
        old, self.need[i] = self.need[i], n
        return [old]

    def roll(self, kind, n):
        if kind > 3 or n == 0 or self.fabric_of_kind[kind] + n > 100000:
            return [-22]
        self.fabric_of_kind[kind] += n
        return [self.fabric_of_kind[kind]]

    def lay(self, a, e, kind):
        if a >= e or e > len(self.need) or kind > 3:
            return [-22]
        if any(self.lacks(b) == 0 for b in range(a, e)):
            return [-62]
        if not self.few_ends([(a, e)]):
            return [-13]
        if self.fabric_of_kind[kind] < self.long * (e - a):
            return [-12]
        if None not in self.plies:
            return [-28]
        number = self.plies.index(None)
        self.plies[number] = (a, e, kind)
        self.fabric_of_kind[kind] -= self.long * (e - a)
        return [number]

    def lift(self, p):
        if p >= 40 or self.plies[p] is None:
            return [-2]
        a, e, kind = self.plies[p]
        self.plies[p] = None
        return [self.long * (e - a)]

    def missing(self, i):
        return [self.lacks(i)] if i < len(self.need) else [-22]

    def answer(self, call):
        if call[0] == 0:
            return self.start(*call[1:])
        if self.need is None:
            return [-11]
        if call[0] <= 5:
            return (None, self.set, self.roll, self.lay, self.lift, self.missing)[call[0]](*call[1:])
        spans = self.plan()
        return {
            6: [len(self.need)] + self.all_lack(),
            7: [len(spans)],
            8: [len(spans)] + [number for span in spans for number in span],
            9: [int(self.few_ends(spans))],
            10: [sum(e - a for a, e in spans) * self.long],
        }[call[0]]


def drawn_call(draw):
    """A call; most are such as may be taken."""
    number = draw.choice([0, 1, 2, 2, 3, 3, 3, 3, 3, 3, 3, 3, 4, 5, 6, 7, 8, 9, 10])
    station = draw.choice([draw.randrange(8), draw.randrange(8), draw.randrange(14), MOST])
    if number == 0:
        if draw.randrange(8):
            return [9]
        need = [draw.choice([0, 3, 12, draw.randrange(13), draw.randrange(14)]) for i in range(draw.randrange(14))]
        long = draw.choice([1, 3, 100, draw.randrange(103)])
        return start(long, draw.choice([1, 3, 20, 20, draw.randrange(23)]), need)
    return {
        1: [1, station, draw.choice([12, draw.randrange(14), MOST])],
        2: [2, draw.randrange(5), draw.choice([draw.randrange(2000), 50000])],
        3: [3, station, draw.choice([station + 1, station + draw.randrange(4), 12]) % (MOST + 1), draw.randrange(4)],
        4: [4, draw.choice([0, 3, draw.randrange(41), MOST])],
        5: [5, station],
    }.get(number, [number])


def crowded(draw):
    """A start, fabric, and short plies, up to forty at times."""
    stations = draw.randrange(4, 13)
    begun = [start(draw.choice([1, 7]), 20, [draw.choice([12, 12, draw.randrange(13)]) for b in range(stations)])]
    places = [draw.randrange(stations) for i in range(99)]
    return begun + [[2, 0, 5000]] + [[3, b, b + draw.choice([1, 1, 2]), 0] for b in places]


class ManySessions(unittest.TestCase):
    def test_they_answer_as_the_account_does(self):
        draw = random.Random(2)
        refusals = set()
        for session in range(400):
            calls = [drawn_call(draw) for i in range(draw.randrange(1, 200))]
            if session % 3:
                calls = crowded(draw) + calls[:99]
            account = Account()
            expected = [account.answer(call) for call in calls]
            self.assertEqual(ask(*calls), expected)
            refusals.update(answer[0] for answer in expected if answer[0] < 0)
        self.assertEqual(refusals, {-2, -11, -12, -13, -16, -22, -28, -62})

    def test_never_a_layer_too_many_nor_too_many_ends_and_no_fabric_is_lost(self):
        draw = random.Random(3)
        for session in range(100):
            mould = Mould()
            rolled = 0
            for i in range(200):
                call = drawn_call(draw) if i else start(7, draw.randrange(1, 21), [9, 12, 4, 0, 12, 7])
                answer = answer_call(mould, call[0], call[1:])
                rolled = 0 if call[0] == 0 and answer[0] > 0 else rolled
                rolled += call[2] if call[0] == 2 and answer[0] > 0 else 0
                self.assertGreaterEqual(min(mould.lacking()), 0)
                self.assertTrue(mould.has_ends_for([]))
                self.assertLessEqual(len(mould.plies), 40)
                in_plies = sum(mould.fabric_of(ply) for ply in mould.plies.values())
                self.assertEqual(sum(mould.stock) + in_plies + mould.scrap, rolled)
