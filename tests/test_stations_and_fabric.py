import unittest

from tests.helper import FABRIC, LACKS, MOST, ask, last, lay, lift, missing, roll, set_need, start

READY = (start(10, 5, [2, 3, 0]), roll(1, 1000))


class SetNeed(unittest.TestCase):
    def test_answers_what_the_station_needed(self):
        calls = (start(10, 5, [2, 3, 0]), set_need(1, 7), set_need(1, 0), set_need(1, 12), LACKS)
        self.assertEqual(ask(*calls)[1:], [[3], [7], [0], [3, 2, 12, 0]])

    def test_the_same_need_again(self):
        self.assertEqual(ask(*READY, set_need(0, 2), LACKS)[2:], [[2], [3, 2, 3, 0]])

    def test_no_such_station(self):
        for station in (3, 12, MOST):
            self.assertEqual(ask(*READY, set_need(station, 1), LACKS)[2:], [[-22], [3, 2, 3, 0]])

    def test_above_12_is_refused(self):
        for layers, answer in ((12, 3), (13, -22), (MOST, -22)):
            self.assertEqual(last(*READY, set_need(1, layers)), [answer])

    def test_lowered_to_what_is_there(self):
        answered = ask(*READY, lay(0, 2, 1), lay(1, 2, 1), set_need(1, 2), LACKS, lay(1, 2, 1), set_need(0, 1), LACKS)
        self.assertEqual(answered[4:], [[3], [3, 1, 0, 0], [-62], [2], [3, 0, 0, 0]])

    def test_below_what_is_there_is_refused(self):
        answered = ask(*READY, lay(0, 2, 1), lay(1, 2, 1), set_need(1, 1), set_need(0, 0), set_need(1, 0), LACKS)
        self.assertEqual(answered[4:], [[-16], [-16], [-16], [3, 1, 1, 0]])

    def test_layers_end_ahead_of_the_station_up_to_which_a_ply_goes(self):
        calls = (start(10, 5, [1, 1, 1]), roll(0, 1000), lay(1, 2, 0), set_need(0, 0), set_need(2, 0), set_need(1, 0))
        self.assertEqual(ask(*calls)[3:], [[1], [1], [-16]])

    def test_after_a_lift_it_may_be_lowered(self):
        self.assertEqual(ask(*READY, lay(0, 1, 1), set_need(0, 0), lift(0), set_need(0, 0))[3:], [[-16], [10], [2]])

    def test_the_first_named_is_answered(self):
        laid = (*READY, lay(0, 1, 1))
        self.assertEqual(last(*laid, set_need(3, 0)), [-22])
        self.assertEqual(last(*laid, set_need(0, 13)), [-22])
        self.assertEqual(last(*laid, set_need(0, 0)), [-16])


class Roll(unittest.TestCase):
    START = start(100, 5, [12] * 12)

    def test_answers_how_much_there_is_of_the_kind(self):
        self.assertEqual(ask(self.START, roll(2, 30), roll(2, 12), roll(0, 5))[1:], [[30], [42], [5]])

    def test_what_a_ply_took_is_not_there(self):
        self.assertEqual(ask(self.START, roll(2, 350), lay(4, 7, 2), roll(2, 1))[2:], [[0], [51]])

    def test_what_was_lifted_does_not_come_back(self):
        self.assertEqual(ask(self.START, roll(2, 350), lay(4, 7, 2), lift(0), roll(2, 1))[3:], [[300], [51]])

    def test_kinds_are_0_to_3(self):
        for kind, answer in ((0, 9), (1, 9), (2, 9), (3, 9), (4, -22), (MOST, -22)):
            self.assertEqual(last(self.START, roll(kind, 9)), [answer], kind)

    def test_none_is_refused(self):
        self.assertEqual(ask(self.START, roll(1, 0), roll(1, 1))[1:], [[-22], [1]])

    def test_a_stock_of_just_100000(self):
        self.assertEqual(ask(self.START, roll(1, 100000), roll(1, 1), roll(0, 100000))[1:], [[100000], [-22], [100000]])
        self.assertEqual(ask(self.START, roll(1, 99999), roll(1, 2), roll(1, 1))[1:], [[99999], [-22], [100000]])
        self.assertEqual(ask(self.START, roll(1, 100001), roll(1, MOST), roll(1, 1))[1:], [[-22], [-22], [1]])

    def test_only_what_is_in_stock_counts(self):
        answered = ask(self.START, roll(3, 100000), lay(0, 1, 3), roll(3, 101), roll(3, 100))
        self.assertEqual(answered[2:], [[0], [-22], [100000]])


class Missing(unittest.TestCase):
    def test_what_each_station_lacks(self):
        self.assertEqual(ask(*READY, missing(0), missing(1), missing(2), LACKS)[2:], [[2], [3], [0], [3, 2, 3, 0]])
        answered = ask(*READY, lay(0, 2, 1), lay(1, 2, 1), missing(0), missing(1), missing(2), LACKS)
        self.assertEqual(answered[4:], [[1], [1], [0], [3, 1, 1, 0]])

    def test_no_such_station(self):
        for station in (3, 12, MOST):
            self.assertEqual(last(*READY, missing(station)), [-22])
        self.assertEqual(ask(start(1, 1, [4]), missing(0), missing(1), LACKS)[1:], [[4], [-22], [1, 4]])

    def test_a_lifted_ply_is_missing_again(self):
        self.assertEqual(ask(*READY, lay(0, 2, 1), lift(0), LACKS, FABRIC)[4:], [[3, 2, 3, 0], [50]])

    def test_the_last_of_twelve_stations(self):
        calls = (start(1, 1, list(range(12))), missing(11), missing(12), LACKS)
        self.assertEqual(ask(*calls)[1:], [[11], [-22], [12] + list(range(12))])
