import itertools
import unittest

from tests.helper import (
    FABRIC, FEWEST, GOES, LACKS, METRES, MOST, PLAN, STATE, WORST, ask, ends, follow, kinds, last, lay, lift, roll,
    set_need, stack, start, stock,
)


class Follow(unittest.TestCase):
    def test_answers_how_many_plies_and_lays_them_in_the_plans_order(self):
        calls = (start(10, 4, [2, 1, 3, 0, 1]), roll(2, 100), PLAN, follow(2), *[stack(b) for b in range(5)])
        self.assertEqual(ask(*calls)[2:], [
            [5, 0, 3, 4, 5, 0, 1, 2, 3, 2, 3], [5], [2, 0, 2], [1, 0], [3, 0, 3, 4], [0], [1, 1],
        ])

    def test_followed_nothing_is_missing(self):
        calls = (start(10, 4, [2, 1, 3, 0, 1]), roll(2, 100), follow(2), LACKS, FEWEST, PLAN, GOES, FABRIC)
        self.assertEqual(ask(*calls)[3:], [[5, 0, 0, 0, 0, 0], [0], [0], [1], [0]])

    def test_all_are_of_that_kind_and_out_of_its_stock(self):
        for kind in range(4):
            rolled = [roll(other, 100) for other in range(4)]
            calls = (start(10, 4, [1, 2]), *rolled, follow(kind), kinds(1), *[stock(other) for other in range(4)])
            of_kind = [2 if other == kind else 0 for other in range(4)]
            left = [[70 if other == kind else 100] for other in range(4)]
            self.assertEqual(ask(*calls)[5:], [[2], [4] + of_kind] + left, kind)

    def test_a_plan_of_nothing(self):
        calls = (start(10, 1, [0, 0]), follow(0), follow(3), follow(4), STATE, METRES)
        self.assertEqual(ask(*calls)[1:], [[0], [0], [-22], [2, 10, 1, 0], [0, 0, 0]])

    def test_followed_again_it_is_a_plan_of_nothing(self):
        calls = (start(10, 1, [2, 1]), roll(0, 30), follow(0), follow(0), follow(1), STATE)
        self.assertEqual(ask(*calls)[2:], [[2], [0], [0], [2, 10, 1, 2]])

    def test_a_plan_of_nothing_beside_forty_plies(self):
        full = (start(1, 20, [10] * 4), roll(0, 40), *[lay(b, b + 1, 0) for b in range(4) for i in range(10)])
        self.assertEqual(ask(*full, follow(0), follow(3), STATE)[42:], [[0], [0], [4, 1, 20, 40]])

    def test_what_is_there_stays(self):
        laid = (start(10, 4, [2, 2, 2]), roll(0, 10), roll(1, 100), lay(1, 2, 0))
        answered = ask(*laid, follow(1), stack(0), stack(1), kinds(1))
        self.assertEqual(answered[4:], [[3], [2, 1, 2], [2, 0, 1], [4, 1, 1, 0, 0]])

    def test_one_station(self):
        calls = (start(100, 1, [12]), roll(3, 1200), follow(3), stack(0), WORST, stock(3))
        self.assertEqual(ask(*calls)[2:], [[12], [12] + list(range(12)), [0, 0], [0]])

    def test_twelve_stations(self):
        calls = (start(100, 1, [12] * 12), roll(3, 14400), follow(3), stack(11), WORST, METRES)
        self.assertEqual(ask(*calls)[2:], [[12], [12] + list(range(12)), [0, 0], [0, 14400, 0]])

    def test_numbers_that_are_free_again_between_others(self):
        laid = (start(1, 9, [12] * 2), roll(0, 99), roll(1, 99), *[lay(0, 2, 0)] * 6, lift(4), lift(1), lift(2))
        lowered = (set_need(0, 7), set_need(1, 8))
        self.assertEqual(ask(*laid, *lowered, PLAN, follow(1), stack(0), stack(1), STATE)[14:], [
            [5, 0, 2, 0, 2, 0, 2, 0, 2, 1, 2], [5],
            [7, 0, 1, 2, 3, 4, 5, 6], [8, 0, 1, 2, 3, 4, 5, 6, 7], [2, 1, 9, 8],
        ])
        self.assertEqual(ask(*laid, set_need(0, 4), set_need(1, 5), PLAN, follow(1), stack(0), stack(1))[14:], [
            [2, 0, 2, 1, 2], [2], [4, 0, 1, 3, 5], [5, 0, 1, 2, 3, 5],
        ])

    def test_every_small_table(self):
        for need in itertools.product(range(4), repeat=4):
            calls = (start(3, 20, list(need)), roll(1, 3 * sum(need) + 1), FEWEST, follow(1), LACKS, METRES)
            answered = ask(*calls)
            self.assertEqual(answered[3], answered[2], need)
            self.assertEqual(answered[4:], [[4, 0, 0, 0, 0], [1, 3 * sum(need), 0]], need)


class Refused(unittest.TestCase):
    def test_kinds_are_0_to_3(self):
        stocked = (start(1, 9, [1]), roll(0, 9), roll(1, 9), roll(2, 9), roll(3, 9))
        for kind, answer in ((0, 1), (1, 1), (2, 1), (3, 1), (4, -22), (MOST, -22)):
            self.assertEqual(last(*stocked, follow(kind)), [answer], kind)

    def test_ends_that_are_just_enough(self):
        for most, answer in ((3, -13), (4, 4), (5, 4)):
            self.assertEqual(last(start(1, most, [0, 4]), roll(0, 9), follow(0)), [answer], most)
            self.assertEqual(last(start(1, most, [4, 0]), roll(0, 9), follow(0)), [answer], most)

    def test_ends_with_what_is_there(self):
        laid = (start(1, 3, [2, 2]), roll(0, 99), lay(0, 1, 0))
        self.assertEqual(ask(*laid, follow(0), ends(1))[3:], [[2], [2]])
        self.assertEqual(ask(*laid, lay(0, 1, 0), GOES, follow(0), ends(1))[3:], [[1], [0], [-13], [2]])

    def test_a_stock_that_is_just_enough_and_one_short_by_1(self):
        for rolled, answer, left in ((59, -12, 59), (60, 3, 0), (61, 3, 1)):
            calls = (start(10, 2, [1, 3, 2]), roll(1, rolled), follow(1), stock(1))
            self.assertEqual(ask(*calls)[2:], [[answer], [left]], rolled)

    def test_the_stock_of_another_kind_does_not_help(self):
        calls = (start(10, 2, [1, 3, 2]), roll(1, 59), roll(0, 1000), follow(1), follow(2))
        self.assertEqual(ask(*calls)[3:], [[-12], [-12]])

    def test_just_forty_and_forty_one(self):
        # Four stations have 28 plies and lack nothing; the plan is that of the stations behind them.
        laid = [lay(b, b + 1, 0) for b in (0, 1, 2, 3) for i in range(7)]
        table = [7, 7, 7, 7]
        for more, answer, plies in ((12, 12, 40), (13, -28, 28)):
            ready = [start(1, 20, table + [0, min(more, 12), 0, more - min(more, 12)]), roll(0, 99)]
            answered = ask(*ready, *laid, FEWEST, GOES, follow(0), STATE)
            self.assertEqual(answered[30:], [[more], [1], [answer], [8, 1, 20, plies]])

    def test_forty_out_of_the_plan_alone(self):
        for need, answer in (([12, 0, 12, 0, 12, 0, 4], 40), ([12, 0, 12, 0, 12, 0, 5], -28), ([12, 0] * 6, -28)):
            calls = (start(1, 20, need), roll(0, 99), GOES, follow(0), STATE)
            self.assertEqual(ask(*calls)[2:], [[1], [answer], [len(need), 1, 20, max(answer, 0)]])

    def test_behind_a_lift_there_is_room(self):
        calls = (start(1, 20, [12, 0, 12, 0, 12, 0, 4, 0, 0]), roll(0, 99), follow(0), set_need(8, 1), follow(0),
                 set_need(0, 11), lift(0), follow(0), set_need(0, 11), follow(0), STATE)
        self.assertEqual(ask(*calls)[2:], [
            [40], [0], [-28], [-16], [1], [-28], [12], [1], [9, 1, 20, 40],
        ])

    def test_refused_it_lays_nothing_and_takes_nothing(self):
        seen = (LACKS, PLAN, METRES, STATE, stack(0), stack(1), WORST, lay(0, 1, 0))
        for ready, answer in (
            ((start(1, 3, [4, 0]), roll(0, 99), lay(0, 1, 0), follow(4)), -22),
            ((start(1, 3, [4, 0]), roll(0, 99), lay(0, 1, 0), follow(0)), -13),
            ((start(1, 9, [4, 0]), roll(0, 3), lay(0, 1, 0), follow(0)), -12),
            ((start(1, 20, [12, 0] * 6), roll(0, 99), lay(0, 1, 0), follow(0)), -28),
        ):
            answered = ask(*ready, *seen)
            self.assertEqual(answered[3], [answer])
            self.assertEqual(answered[4:], ask(*ready[:3], *seen)[3:])


class OrderOfRefusals(unittest.TestCase):
    """Each plan would be refused by every number from the one it answers on."""

    TABLE = [12, 0, 12, 0, 12, 0, 12]

    def test_22_is_ahead_of_13(self):
        self.assertEqual(last(start(1, 11, self.TABLE), roll(0, 47), follow(4)), [-22])

    def test_13_is_ahead_of_12(self):
        self.assertEqual(last(start(1, 11, self.TABLE), roll(0, 47), follow(0)), [-13])

    def test_12_is_ahead_of_28(self):
        self.assertEqual(last(start(1, 12, self.TABLE), roll(0, 47), follow(0)), [-12])

    def test_28_is_last(self):
        self.assertEqual(last(start(1, 12, self.TABLE), roll(0, 48), follow(0)), [-28])

    def test_13_is_ahead_of_28(self):
        self.assertEqual(last(start(1, 11, self.TABLE), roll(0, 48), follow(0)), [-13])
