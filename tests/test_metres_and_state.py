import unittest

from tests.helper import METRES, MOST, STATE, ask, follow, last, lay, lift, roll, set_need, start, stock, swap

START = start(10, 4, [2, 3, 0, 1])


class Stock(unittest.TestCase):
    def test_how_much_there_is_of_each_kind(self):
        calls = (START, roll(0, 7), roll(2, 30), roll(2, 12), roll(3, 100000), *[stock(kind) for kind in range(4)])
        self.assertEqual(ask(*calls)[5:], [[7], [0], [42], [100000]])

    def test_no_such_kind(self):
        for kind in (4, 40, MOST):
            self.assertEqual(last(START, roll(3, 7), stock(kind)), [-22], kind)

    def test_none_at_the_beginning(self):
        self.assertEqual(ask(START, *[stock(kind) for kind in range(4)])[1:], [[0]] * 4)

    def test_what_is_laid_is_not_in_stock_and_lifted_does_not_come_back(self):
        calls = (START, roll(1, 50), lay(0, 2, 1), stock(1), lay(1, 2, 1), stock(1), lift(0), stock(1))
        self.assertEqual(ask(*calls)[2:], [[0], [30], [1], [20], [20], [20]])

    def test_what_is_refused_takes_nothing(self):
        calls = (START, roll(1, 50), lay(0, 3, 1), roll(1, 100000), roll(1, 0), lift(0), follow(1), follow(4), stock(1))
        self.assertEqual(ask(*calls)[2:], [[-62], [-22], [-22], [-2], [-12], [-22], [50]])

    def test_to_the_last_of_it(self):
        calls = (START, roll(1, 20), lay(0, 2, 1), stock(1), lay(1, 2, 1), stock(1))
        self.assertEqual(ask(*calls)[2:], [[0], [0], [-12], [0]])


class Metres(unittest.TestCase):
    def test_at_the_beginning(self):
        self.assertEqual(ask(START, METRES)[1:], [[0, 0, 0]])

    def test_behind_roll_lay_follow_and_lift(self):
        calls = (START, roll(0, 100), METRES, roll(3, 5), METRES, lay(0, 2, 0), METRES, follow(0), METRES, lift(0),
                 METRES, lift(1), METRES, lay(0, 1, 0), METRES)
        self.assertEqual(ask(*calls)[1:], [
            [100], [100, 0, 0], [5], [105, 0, 0], [0], [85, 20, 0], [3], [45, 60, 0], [20], [45, 40, 20],
            [20], [45, 20, 40], [0], [35, 30, 40],
        ])

    def test_of_all_kinds(self):
        calls = (START, *[roll(kind, 30 + kind) for kind in range(4)], METRES, lay(0, 1, 3), lay(1, 2, 2), METRES)
        self.assertEqual(ask(*calls)[5:], [[126, 0, 0], [0], [1], [106, 20, 0]])

    def test_stock_beyond_100000_of_all_kinds_together(self):
        calls = (START, *[roll(kind, 100000) for kind in range(4)], METRES)
        self.assertEqual(last(*calls), [400000, 0, 0])

    def test_a_refused_call_and_a_swap_move_nothing(self):
        ready = (START, roll(0, 100), lay(0, 2, 0), lay(1, 2, 0), lift(1), lay(1, 2, 0))
        refused = (lay(2, 3, 0), lift(7), follow(1), roll(4, 1), start(0, 1, [1]), swap(0, 1), set_need(0, 5))
        self.assertEqual(ask(*ready, METRES, *refused, METRES)[6::8], [[60, 30, 10], [60, 30, 10]])

    def test_stock_plies_and_scrap_are_what_was_rolled_in(self):
        calls = [start(7, 20, [5, 8, 2, 9, 9]), roll(0, 300), roll(2, 400)]
        calls += [lay(b, b + 2, 2 * (b % 2)) for b in (0, 1, 2, 3, 0, 1)]
        calls += [lift(2), lift(0), follow(0), lift(9), lift(1)]
        for behind in range(3, len(calls) + 1):
            self.assertEqual(sum(last(*calls[:behind], METRES)), 700, behind)

    def test_a_second_start_has_no_fabric_no_plies_and_no_scrap(self):
        busy = (START, roll(0, 100), lay(0, 2, 0), lay(1, 2, 0), lift(0))
        self.assertEqual(ask(*busy, METRES, start(3, 2, [1]), METRES, stock(0), roll(0, 9), follow(0), METRES)[5:], [
            [70, 10, 20], [1], [0, 0, 0], [0], [9], [1], [6, 3, 0],
        ])

    def test_a_refused_second_start_leaves_them(self):
        busy = (START, roll(0, 100), lay(0, 2, 0), lay(1, 2, 0), lift(0), start(3, 2, []))
        self.assertEqual(ask(*busy, METRES, STATE)[5:], [[-22], [70, 10, 20], [4, 10, 4, 1]])


class State(unittest.TestCase):
    def test_at_the_beginning(self):
        self.assertEqual(ask(START, STATE)[1:], [[4, 10, 4, 0]])
        self.assertEqual(last(start(100, 20, [12] * 12), STATE), [12, 100, 20, 0])
        self.assertEqual(last(start(1, 2, [0]), STATE), [1, 1, 2, 0])

    def test_behind_lay_follow_lift_and_roll(self):
        calls = (START, roll(0, 100), STATE, lay(0, 2, 0), STATE, follow(0), STATE, lift(1), STATE, lift(0), STATE)
        self.assertEqual(ask(*calls)[2::2], [[4, 10, 4, plies] for plies in (0, 1, 4, 3, 2)])

    def test_behind_what_is_refused(self):
        laid = (START, roll(0, 20), lay(0, 2, 0))
        refused = (lay(0, 2, 0), lay(2, 3, 0), follow(0), lift(1), set_need(3, 13))
        self.assertEqual(ask(*laid, *refused, STATE)[3:], [[-12], [-62], [-12], [-2], [-22], [4, 10, 4, 1]])

    def test_a_set_need_and_a_swap_leave_it(self):
        calls = (START, roll(0, 90), lay(0, 2, 0), lay(1, 2, 0), STATE, set_need(3, 12), STATE, swap(0, 1), STATE)
        self.assertEqual(ask(*calls)[4::2], [[4, 10, 4, 2]] * 3)

    def test_behind_a_second_start(self):
        calls = (START, roll(0, 90), lay(0, 2, 0), start(3, 9, [1, 2]), STATE, start(3, 0, [1, 2, 3]), STATE)
        self.assertEqual(ask(*calls)[3:], [[2], [2, 3, 9, 0], [-22], [2, 3, 9, 0]])

    def test_forty_plies(self):
        calls = (start(1, 20, [10] * 4), roll(0, 40), *[lay(b, b + 1, 0) for b in range(4) for i in range(10)])
        self.assertEqual(ask(*calls, STATE, METRES)[42:], [[4, 1, 20, 40], [0, 40, 0]])
