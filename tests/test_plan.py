import itertools
import unittest

from blademould.planning import count_ends, fewest_spans, plan_spans
from tests.helper import FABRIC, FEWEST, GOES, LACKS, PLAN, ask, last, lay, roll, set_need, start


def made_by(spans, stations):
    return [len([1 for first, behind in spans if first <= b < behind]) for b in range(stations)]


def fewest_by_trial(lacking, known):
    """Try every ply that covers the first station that lacks something."""
    if lacking not in known:
        first = next((b for b, layers in enumerate(lacking) if layers), None)
        if first is None:
            return 0
        tried = []
        left = list(lacking)
        for b in range(first, len(lacking)):
            if left[b] == 0:
                break
            left[b] -= 1
            tried.append(1 + fewest_by_trial(tuple(left), known))
        known[lacking] = min(tried)
    return known[lacking]


class Plan(unittest.TestCase):
    def questions(self, long, ends, need):
        return ask(start(long, ends, need), FEWEST, PLAN, GOES, FABRIC)[1:]

    def test_a_table_that_rises_and_falls(self):
        self.assertEqual(self.questions(10, 2, [1, 3, 2]), [[3], [3, 0, 3, 1, 3, 1, 2], [1], [60]])

    def test_two_hills(self):
        answered = self.questions(1, 4, [2, 1, 3, 0, 1])
        self.assertEqual(answered, [[5], [5, 0, 3, 4, 5, 0, 1, 2, 3, 2, 3], [1], [7]])

    def test_a_station_that_needs_nothing_between_two(self):
        self.assertEqual(self.questions(5, 2, [2, 0, 2]), [[4], [4, 0, 1, 2, 3, 0, 1, 2, 3], [1], [20]])
        self.assertEqual(self.questions(5, 1, [2, 0, 2])[2], [0])

    def test_nothing_at_the_root_and_the_tip(self):
        self.assertEqual(self.questions(3, 2, [0, 2, 0]), [[2], [2, 1, 2, 1, 2], [1], [6]])

    def test_one_station(self):
        self.assertEqual(self.questions(100, 1, [12]), [[12], [12] + [0, 1] * 12, [1], [1200]])
        self.assertEqual(self.questions(100, 1, [0]), [[0], [0], [1], [0]])

    def test_twelve_stations(self):
        self.assertEqual(self.questions(100, 1, [12] * 12), [[12], [12] + [0, 12] * 12, [1], [14400]])
        self.assertEqual(self.questions(2, 1, [0] * 12), [[0], [0], [1], [0]])

    def test_more_than_forty_plies_are_planned_all_the_same(self):
        pairs = [number for b in range(0, 12, 2) for number in (b, b + 1)]
        self.assertEqual(self.questions(1, 20, [12, 0] * 6), [[72], [72] + pairs * 12, [1], [72]])

    def test_what_is_there_is_not_planned(self):
        laid = (start(10, 9, [2, 2, 2]), roll(0, 1000), lay(1, 2, 0))
        self.assertEqual(ask(*laid, LACKS, FEWEST, PLAN, FABRIC)[3:], [[3, 2, 1, 2], [3], [3, 0, 3, 0, 1, 2, 3], [50]])

    def test_a_need_lowered_to_what_is_there(self):
        laid = (start(10, 9, [2, 2, 2]), roll(0, 1000), lay(1, 2, 0), set_need(1, 1))
        self.assertEqual(ask(*laid, FEWEST, PLAN, FABRIC)[4:], [[4], [4, 0, 1, 2, 3, 0, 1, 2, 3], [40]])

    def test_asking_lays_nothing(self):
        asked = (PLAN, GOES, FABRIC, FEWEST)
        answered = ask(start(10, 9, [2, 1]), roll(0, 10), *asked, *asked, LACKS, roll(0, 1))
        self.assertEqual(answered[10:], [[2, 2, 1], [11]])


class Goes(unittest.TestCase):
    def test_ends_that_are_just_enough(self):
        for ends, answer in ((3, 0), (4, 1), (5, 1)):
            self.assertEqual(last(start(1, ends, [2, 6]), GOES), [answer], ends)
            self.assertEqual(last(start(1, ends, [6, 2]), GOES), [answer], ends)

    def test_too_many_at_any_station(self):
        for b in range(1, 12):
            need = [0] * b + [3] * (12 - b)
            self.assertEqual(ask(start(1, 2, need), GOES, start(1, 3, need), GOES), [[12], [0], [12], [1]])

    def test_with_what_is_there(self):
        laid = (start(1, 3, [2, 2]), roll(0, 1000), lay(0, 1, 0))
        self.assertEqual(ask(*laid, GOES)[3:], [[1]])
        self.assertEqual(ask(*laid, lay(0, 1, 0), GOES)[3:], [[1], [0]])

    def test_when_nothing_is_missing(self):
        calls = (start(1, 2, [1, 1]), roll(0, 1000), lay(0, 1, 0), lay(1, 2, 0), LACKS, GOES)
        self.assertEqual(ask(*calls)[4:], [[2, 0, 0], [1]])

    def test_without_fabric_and_past_forty_plies_too(self):
        self.assertEqual(last(start(100, 20, [12, 0] * 6), GOES), [1])

    def test_twenty_one_ends(self):
        self.assertEqual(last(start(1, 20, [12] * 2), roll(0, 99), *[lay(0, 1, 0)] * 10, GOES), [1])
        self.assertEqual(last(start(1, 20, [12] * 2), roll(0, 99), *[lay(0, 1, 0)] * 11, GOES), [0])


class EveryTable(unittest.TestCase):
    def test_the_plan_makes_just_what_is_missing_and_no_fewer_plies_do(self):
        known = {}
        for stations in range(1, 6):
            for need in itertools.product(range(4), repeat=stations):
                spans = plan_spans(list(need))
                self.assertEqual(made_by(spans, stations), list(need))
                self.assertEqual(len(spans), fewest_by_trial(need, known), need)
                self.assertEqual(fewest_spans(list(need)), len(spans), need)

    def test_it_has_no_more_ends_than_it_must(self):
        for need in itertools.product(range(5), repeat=4):
            must = [0] + [abs(need[b] - need[b - 1]) for b in range(1, 4)]
            self.assertEqual(count_ends(plan_spans(list(need)), 4), must, need)

    def test_it_goes_by_height_and_from_the_root_on(self):
        for need in itertools.product(range(4), repeat=5):
            spans = []
            for h in range(1, 4):
                signs = "".join("x" if layers >= h else " " for layers in need)
                spans += [(b, e) for b in range(5) for e in range(b + 1, 6)
                          if signs[b:e].strip() == "x" * (e - b) and (" " + signs + " ")[b] == (signs + " ")[e] == " "]
            self.assertEqual(plan_spans(list(need)), spans, need)
