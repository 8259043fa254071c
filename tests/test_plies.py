import unittest

from tests.helper import GOES, LACKS, MOST, ask, last, lay, lift, roll, set_need, start

READY = (start(10, 2, [2, 3, 0, 1]), roll(0, 1000), roll(3, 25))


def forty_plies():
    """Four stations with ten plies each: there are twenty ends between any two."""
    return (start(1, 20, [10, 10, 10, 11]), roll(0, 1000), *[lay(b, b + 1, 0) for b in range(4) for i in range(10)])


class Lay(unittest.TestCase):
    def test_plies_are_numbered_from_0(self):
        answered = ask(*READY, lay(0, 2, 0), lay(0, 2, 3), lay(3, 4, 0), LACKS)
        self.assertEqual(answered[3:], [[0], [1], [2], [4, 0, 1, 0, 0]])

    def test_from_must_be_before_to(self):
        for first, behind in ((1, 1), (1, 0), (2, 1), (4, 4), (MOST, 4), (MOST, MOST), (0, 0), (4, 1)):
            self.assertEqual(ask(*READY, lay(first, behind, 0), LACKS)[3:], [[-22], [4, 2, 3, 0, 1]])

    def test_to_may_be_the_last_stations_end_and_no_more(self):
        self.assertEqual(last(*READY, lay(3, 4, 0)), [0])
        self.assertEqual(last(*READY, lay(3, 5, 0)), [-22])
        self.assertEqual(last(*READY, lay(4, 5, 0)), [-22])
        self.assertEqual(last(*READY, lay(0, MOST, 0)), [-22])

    def test_kinds_are_0_to_3(self):
        stocked = (start(1, 5, [5]), roll(0, 9), roll(1, 9), roll(2, 9), roll(3, 9))
        for kind, answer in ((0, 0), (1, 0), (2, 0), (3, 0), (4, -22), (MOST, -22)):
            self.assertEqual(last(*stocked, lay(0, 1, kind)), [answer], kind)

    def test_nothing_missing_at_some_station(self):
        for first, behind in ((2, 3), (1, 3), (2, 4), (0, 4)):
            self.assertEqual(ask(*READY, lay(first, behind, 0), LACKS)[3:], [[-62], [4, 2, 3, 0, 1]])

    def test_never_a_layer_too_many(self):
        answered = ask(*READY, lay(0, 1, 0), lay(0, 2, 0), lay(0, 1, 0), lay(0, 2, 0), lay(1, 2, 0), LACKS)
        self.assertEqual(answered[3:], [[0], [1], [-62], [-62], [2], [4, 0, 1, 0, 1]])

    def test_a_refused_ply_takes_nothing(self):
        refused = (lay(0, 5, 3), lay(1, 3, 3), lay(0, 2, 1))
        self.assertEqual(ask(*READY, *refused, roll(3, 1), lift(0))[3:], [[-22], [-62], [-12], [26], [-2]])


class Ends(unittest.TestCase):
    def test_plies_that_begin_and_plies_that_end_count(self):
        fabric = (start(1, 2, [5, 5, 5]), roll(0, 1000))
        self.assertEqual(ask(*fabric, lay(0, 1, 0), lay(0, 1, 0), lay(0, 1, 0))[2:], [[0], [1], [-13]])
        self.assertEqual(ask(*fabric, lay(1, 3, 0), lay(1, 3, 0), lay(1, 3, 0))[2:], [[0], [1], [-13]])
        self.assertEqual(ask(*fabric, lay(0, 1, 0), lay(1, 3, 0), lay(1, 2, 0))[2:], [[0], [1], [-13]])
        self.assertEqual(ask(*fabric, lay(0, 1, 0), lay(1, 3, 0), lay(0, 2, 0))[2:], [[0], [1], [2]])

    def test_both_ends_of_a_ply_count(self):
        for other in ((0, 1), (1, 2), (0, 2), (2, 3), (1, 3)):
            calls = (start(1, 1, [5, 5, 5]), roll(0, 1000), lay(1, 2, 0), lay(other[0], other[1], 0))
            self.assertEqual(ask(*calls)[2:], [[0], [-13]], other)

    def test_a_ply_that_passes_has_no_end_there(self):
        calls = (start(1, 1, [5, 5, 5]), roll(0, 1000), lay(1, 2, 0), lay(0, 3, 0), lay(0, 3, 0), GOES)
        self.assertEqual(ask(*calls)[2:], [[0], [1], [2], [0]])

    def test_at_the_root_and_the_tip_there_are_none(self):
        calls = (start(1, 1, [12] * 3), roll(0, 1000), *[lay(0, 3, 0)] * 12, LACKS)
        self.assertEqual(ask(*calls)[2:], [[i] for i in range(12)] + [[3, 0, 0, 0]])

    def test_one_station_has_no_ends(self):
        calls = (start(1, 1, [12]), roll(0, 1000), *[lay(0, 1, 0)] * 12, lay(0, 1, 0))
        self.assertEqual(ask(*calls)[2:], [[i] for i in range(12)] + [[-62]])

    def test_a_lifted_ply_has_none(self):
        calls = (start(1, 1, [5, 5]), roll(0, 1000), lay(0, 1, 0), lay(1, 2, 0), lift(0), lay(1, 2, 0))
        self.assertEqual(ask(*calls)[2:], [[0], [-13], [1], [0]])

    def test_twenty_and_no_more(self):
        calls = (start(1, 20, [12, 12]), roll(0, 1000), *[lay(0, 1, 0)] * 11, *[lay(1, 2, 0)] * 9)
        self.assertEqual(ask(*calls)[2:], [[i] for i in range(20)])
        self.assertEqual(last(*calls, lay(1, 2, 0)), [-13])
        self.assertEqual(last(*calls, lay(0, 1, 0)), [-13])
        self.assertEqual(last(*calls, lay(0, 2, 0)), [20])


class Stock(unittest.TestCase):
    def test_just_enough(self):
        self.assertEqual(ask(start(10, 5, [3, 3]), roll(0, 20), lay(0, 2, 0), lay(0, 1, 0))[2:], [[0], [-12]])
        self.assertEqual(ask(start(10, 5, [3, 3]), roll(0, 19), lay(0, 2, 0), lay(0, 1, 0))[2:], [[-12], [0]])

    def test_each_kind_has_its_own(self):
        calls = (start(10, 5, [9, 9]), roll(0, 20), roll(2, 10), lay(0, 2, 2), lay(0, 1, 1), lay(0, 1, 2), lay(0, 2, 0))
        self.assertEqual(ask(*calls)[3:], [[-12], [-12], [0], [1]])

    def test_long_stations_take_more(self):
        calls = (start(100, 5, [1] * 12), roll(0, 1199), lay(0, 12, 0), roll(0, 1), lay(0, 12, 0), roll(0, 7))
        self.assertEqual(ask(*calls)[2:], [[-12], [1200], [0], [7]])


class Forty(unittest.TestCase):
    def test_forty_and_no_more(self):
        answered = ask(*forty_plies(), LACKS, set_need(0, 12), set_need(1, 12), set_need(2, 12), lay(0, 4, 0))
        self.assertEqual(answered[2:42], [[i] for i in range(40)])
        self.assertEqual(answered[42:], [[4, 0, 0, 0, 1], [10], [10], [10], [-28]])

    def test_a_lifted_one_makes_room(self):
        raised = (set_need(0, 12), set_need(1, 12), set_need(2, 12))
        answered = ask(*forty_plies(), *raised, lift(39), lay(0, 4, 0), lay(0, 4, 0))
        self.assertEqual(answered[-3:], [[1], [39], [-28]])


class Numbers(unittest.TestCase):
    def test_the_least_free_number(self):
        laid = (start(1, 5, [12]), roll(0, 100), *[lay(0, 1, 0)] * 5)
        answered = ask(*laid, lift(3), lift(1), lay(0, 1, 0), lay(0, 1, 0), lay(0, 1, 0))
        self.assertEqual(answered[7:], [[1], [1], [1], [3], [5]])

    def test_the_first_number_again(self):
        self.assertEqual(ask(*READY, lay(0, 1, 0), lay(0, 1, 0), lift(0), lay(1, 2, 0))[-1], [0])

    def test_the_others_keep_theirs(self):
        answered = ask(*READY, lay(0, 1, 0), lay(0, 2, 0), lift(0), lift(1), lift(1))
        self.assertEqual(answered[5:], [[10], [20], [-2]])


class Lift(unittest.TestCase):
    def test_answers_its_fabric(self):
        laid = (start(7, 5, [3, 3, 3]), roll(0, 100), lay(0, 3, 0), lay(1, 3, 0), lay(2, 3, 0))
        self.assertEqual(ask(*laid, lift(1), lift(0), lift(2))[5:], [[14], [21], [7]])

    def test_no_such_ply(self):
        self.assertEqual(ask(*READY, lift(0), lay(0, 1, 0), lift(1), lift(40), lift(MOST), LACKS)[3:],
                         [[-2], [0], [-2], [-2], [-2], [4, 1, 3, 0, 1]])

    def test_it_is_gone(self):
        self.assertEqual(ask(*READY, lay(0, 1, 0), lift(0), lift(0), LACKS)[4:], [[10], [-2], [4, 2, 3, 0, 1]])


class OrderOfRefusals(unittest.TestCase):
    """Each call would be refused by every number from the one it answers on."""

    def test_22_is_ahead_of_all(self):
        full = (*forty_plies(), roll(0, 1))
        self.assertEqual(last(*full, lay(1, 2, 4)), [-22])
        self.assertEqual(last(*full, lay(1, 1, 1)), [-22])
        self.assertEqual(last(*full, lay(1, 5, 1)), [-22])

    def test_62_is_ahead_of_13(self):
        self.assertEqual(last(*forty_plies(), lay(1, 2, 1)), [-62])

    def test_13_is_ahead_of_12(self):
        self.assertEqual(last(*forty_plies(), lay(3, 4, 1)), [-13])

    def test_12_is_ahead_of_28(self):
        raised = (set_need(0, 12), set_need(1, 12), set_need(2, 12))
        self.assertEqual(last(*forty_plies(), *raised, lay(0, 4, 1)), [-12])
        self.assertEqual(last(*forty_plies(), *raised, lay(0, 4, 0)), [-28])
