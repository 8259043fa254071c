"""Long sessions of calls drawn by a written seed, beside a slow and plain account of the same mould."""

import random
import unittest

from blademould.layup import answers
from tests.helper import AFTER_START, LACKS, METRES, MOST, STATE, WORST, ask, flat, lay, roll, split, start


class Account:
    """What each call answers, by counting layers, ends and plies anew each time."""

    def __init__(self):
        self.need = None

    def ends(self, spans):
        return [sum((a == b) + (e == b) for a, e in spans) for b in range(1, len(self.need))]

    def few_ends(self, more):
        return all(n <= self.most for n in self.ends([ply[:2] for ply in self.plies if ply] + more))

    def lacks(self, b):
        return self.need[b] - sum(1 for ply in self.plies if ply and b in range(ply[0], ply[1]))

    def all_lack(self):
        return [self.lacks(b) for b in range(len(self.need))]

    def plan(self):
        left, spans = self.all_lack(), []
        while any(left):
            inside = False
            for b, layers in enumerate(left):
                if layers and not inside:
                    spans.append((b, b))
                if layers:
                    spans[-1] = (spans[-1][0], b + 1)
                    left[b] -= 1
                inside = layers > 0
        return spans

    def start(self, long, ends, count, *need):
        if long not in range(1, 101) or ends not in range(1, 21) or count not in range(1, 13) or max(need) > 12:
            return [-22]
        self.long, self.most, self.need = long, ends, list(need)
        self.plies, self.fabric_of_kind, self.lifted = [None] * 40, [0, 0, 0, 0], []
        return [count]

    def set(self, i, n):
        if i >= len(self.need) or n > 12:
            return [-22]
        if self.need[i] - self.lacks(i) > n:
            return [-16]
        old, self.need[i] = self.need[i], n
        return [old]

    def roll(self, kind, n):
        if kind > 3 or n == 0 or self.fabric_of_kind[kind] + n > 100000:
            return [-22]
        self.fabric_of_kind[kind] += n
        return [self.fabric_of_kind[kind]]

    def lay(self, a, e, kind):
        if a >= e or e > len(self.need) or kind > 3:
            return [-22]
        if any(self.lacks(b) == 0 for b in range(a, e)):
            return [-62]
        if not self.few_ends([(a, e)]):
            return [-13]
        if self.fabric_of_kind[kind] < self.long * (e - a):
            return [-12]
        if None not in self.plies:
            return [-28]
        number = self.plies.index(None)
        self.plies[number] = (a, e, kind)
        self.fabric_of_kind[kind] -= self.long * (e - a)
        return [number]

    def lift(self, p):
        if p >= 40 or self.plies[p] is None:
            return [-2]
        a, e, kind = self.plies[p]
        self.plies[p] = None
        self.lifted.append((a, e, kind))
        return [self.long * (e - a)]

    def missing(self, i):
        return [self.lacks(i)] if i < len(self.need) else [-22]

    def follow(self, kind):
        spans = self.plan()
        if kind > 3:
            return [-22]
        if not self.few_ends(spans):
            return [-13]
        if self.fabric_of_kind[kind] < self.length(spans):
            return [-12]
        if self.plies.count(None) < len(spans):
            return [-28]
        for a, e in spans:
            assert self.lay(a, e, kind)[0] >= 0
        return [len(spans)]

    def length(self, spans):
        return sum(self.long for span in spans for b in range(span[0], span[1]))

    def laid(self):
        return [ply for ply in self.plies if ply]

    def all_ends(self):
        return [0] + self.ends([ply[:2] for ply in self.laid()])

    def ends_at(self, b):
        return [self.all_ends()[b]] if b < len(self.need) else [-22]

    def worst(self):
        most = max(self.all_ends())
        return [most, min(b for b in range(len(self.need)) if self.ends_at(b) == [most])]

    def cover(self, i):
        return [p for p in range(40) if self.plies[p] and self.plies[p][0] <= i and i + 1 <= self.plies[p][1]]

    def stack(self, i):
        return [len(self.cover(i))] + self.cover(i) if i < len(self.need) else [-22]

    def kinds(self, i):
        if i >= len(self.need):
            return [-22]
        return [4] + [sum(self.plies[p][2] == kind for p in self.cover(i)) for kind in (0, 1, 2, 3)]

    def alike(self, i):
        if i >= len(self.need):
            return [-22]
        signs = "".join(str(self.plies[p][2]) for p in self.cover(i))
        return [max(n for n in range(13) for sign in "0123" if sign * n in signs)]

    def swap(self, p, q):
        if max(p, q) > 39 or self.plies[p] is None or self.plies[q] is None:
            return [-2]
        if p == q:
            return [-22]
        self.plies[p], self.plies[q] = self.plies[q], self.plies[p]
        return [0]

    def stock(self, kind):
        return [self.fabric_of_kind[kind]] if kind < 4 else [-22]

    def metres(self):
        return [sum(self.fabric_of_kind), self.length(self.laid()), self.length(self.lifted)]

    def answer(self, call):
        if call[0] == 0:
            return self.start(*call[1:])
        if self.need is None:
            return [-11]
        return {
            1: self.set, 2: self.roll, 3: self.lay, 4: self.lift, 5: self.missing,
            6: lambda: [len(self.need)] + self.all_lack(),
            7: lambda: [len(self.plan())],
            8: lambda: [len(self.plan())] + [number for span in self.plan() for number in span],
            9: lambda: [int(self.few_ends(self.plan()))],
            10: lambda: [self.length(self.plan())],
            11: self.follow, 12: self.ends_at, 13: self.worst, 14: self.stack, 15: self.kinds, 16: self.alike,
            17: self.swap, 18: self.stock, 19: self.metres,
            20: lambda: [len(self.need), self.long, self.most, len(self.laid())],
        }[call[0]](*call[1:])


def drawn_call(draw):
    """A call; most are such as may be taken."""
    number = draw.choice([0, 1, 2, 2] + [3] * 10 + [4, 4] + list(range(5, 21)))
    station = draw.choice([draw.randrange(8), draw.randrange(8), draw.randrange(14), MOST])
    kind = draw.choice([draw.randrange(4), draw.randrange(4), draw.randrange(6), MOST])
    plies = [draw.choice([0, 3, draw.randrange(10), draw.randrange(41), MOST]) for i in range(2)]
    if number == 0:
        if draw.randrange(8):
            return [9]
        need = [draw.choice([0, 3, 12, draw.randrange(13), draw.randrange(14)]) for i in range(draw.randrange(14))]
        long = draw.choice([1, 3, 100, draw.randrange(103)])
        return start(long, draw.choice([1, 3, 20, 20, draw.randrange(23)]), need)
    if number == 3:
        behind = draw.choice([station + 1, station + draw.randrange(4), 12]) % (MOST + 1)
        return [3, station, behind, draw.randrange(4)]
    return {
        1: [1, station, draw.choice([12, draw.randrange(14), MOST])],
        2: [2, draw.randrange(5), draw.choice([draw.randrange(2000), 50000])],
        4: [4, plies[0]],
        11: [11, kind],
        17: [17] + plies,
        18: [18, kind],
    }.get(number, [number, station] if number in (5, 12, 14, 15, 16) else [number])


def crowded(draw):
    """A start, fabric, and short plies, up to forty at times."""
    stations = draw.randrange(4, 13)
    begun = [start(draw.choice([1, 7]), 20, [draw.choice([12, 12, draw.randrange(13)]) for b in range(stations)])]
    fabric = [roll(kind, 5000) for kind in range(4)]
    spans = [(b, b + draw.choice([1, 1, 2])) for b in [draw.randrange(stations) for i in range(95)]]
    return begun + fabric + [lay(b, e, draw.randrange(4)) for b, e in spans]


def drawn_session(draw, session):
    calls = [drawn_call(draw) for i in range(draw.randrange(1, 200))]
    return crowded(draw) + calls[:99] if session % 3 else calls


class ManySessions(unittest.TestCase):
    def test_they_answer_as_the_account_does(self):
        draw = random.Random(2)
        seen = set()
        for session in range(600):
            calls = drawn_session(draw, session)
            account = Account()
            expected = [account.answer(call) for call in calls]
            self.assertEqual(ask(*calls), expected)
            seen.update((call[0], min(answer[0], 1)) for call, answer in zip(calls, expected))
        self.assertEqual({refusal for call, refusal in seen if refusal < 0}, {-2, -11, -12, -13, -16, -22, -28, -62})
        self.assertEqual({refusal for call, refusal in seen if call == 11}, {-28, -22, -13, -12, -11, 0, 1})
        self.assertEqual({refusal for call, refusal in seen if call == 17}, {-22, -11, -2, 0})

    def test_never_a_layer_too_many_nor_too_many_ends_and_no_fabric_is_lost(self):
        draw = random.Random(3)
        for session in range(150):
            calls = drawn_session(draw, session)[:60] if session % 2 else crowded(draw)[:60]
            watched = (LACKS, WORST, METRES, STATE)
            answered = []
            # At most 200 calls may be handed in together, so each part of the line is watched at its end.
            for behind in range(1, len(calls) + 1):
                answered.append(ask(*calls[:behind], *watched)[behind - 1:])
            self.hold(calls, answered)

    def hold(self, calls, answered):
        rolled = 0
        for call, (answer, lacks, worst, metres, state) in zip(calls, answered):
            if state == [-11]:
                continue
            rolled = 0 if call[0] == 0 and answer[0] > 0 else rolled
            rolled += call[2] if call[0] == 2 and answer[0] > 0 else 0
            self.assertEqual(sum(metres), rolled)
            self.assertGreaterEqual(min(lacks), 0)
            self.assertLessEqual(worst[0], state[2])
            self.assertLessEqual(state[3], 40)
            if call[0] == 11 and answer[0] >= 0:
                self.assertEqual(sum(lacks[1:]), 0)


class EveryCall(unittest.TestCase):
    def test_a_line_of_200_calls_with_all_21_in_it(self):
        for seed in range(20):
            draw = random.Random(seed)
            calls = [start(3, 12, [4, 6, 2, 0, 5]), *[roll(kind, 2000) for kind in range(4)], *AFTER_START]
            calls += [drawn_call(draw) for i in range(200 - len(calls))]
            self.assertEqual({call[0] for call in calls}, set(range(21)))
            self.assertEqual(len(calls), 200)
            account = Account()
            handed = flat(calls)
            before = list(handed)
            self.assertEqual(split(answers(handed)), [account.answer(call) for call in calls])
            self.assertEqual(handed, before)
