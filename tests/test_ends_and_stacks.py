import unittest

from tests.helper import (
    LACKS, METRES, MOST, STATE, WORST, alike, ask, ends, follow, kinds, last, lay, lift, roll, set_need, stack, start,
    stock, swap,
)

READY = (start(10, 20, [12, 12, 12, 12]), roll(0, 1000), roll(1, 1000), roll(2, 1000), roll(3, 1000))


def after(calls, *asked):
    """What is answered to those that are asked behind the calls on a mould that is ready."""
    return ask(*READY, *calls, *asked)[len(READY) + len(calls):]


def ends_of(*spans):
    """The ends at each of the four stations, and where there are the most."""
    return after([lay(first, behind, 0) for first, behind in spans], *[ends(b) for b in range(4)], WORST)


def laid_of(*of_kinds):
    """Plies of these kinds, one on another on the first two stations."""
    return [lay(0, 2, kind) for kind in of_kinds]


class EndsAndWorst(unittest.TestCase):
    def test_without_plies(self):
        self.assertEqual(ends_of(), [[0], [0], [0], [0], [0, 0]])

    def test_at_the_root_and_the_tip_there_are_none(self):
        self.assertEqual(ends_of((0, 4), (0, 4)), [[0], [0], [0], [0], [0, 0]])
        self.assertEqual(ends_of((0, 1)), [[0], [1], [0], [0], [1, 1]])
        self.assertEqual(ends_of((3, 4)), [[0], [0], [0], [1], [1, 3]])
        self.assertEqual(ends_of((2, 4), (0, 3), (1, 4)), [[0], [1], [1], [1], [1, 1]])

    def test_both_ends_of_a_ply(self):
        self.assertEqual(ends_of((1, 3)), [[0], [1], [0], [1], [1, 1]])

    def test_where_one_ply_ends_and_the_next_begins(self):
        self.assertEqual(ends_of((0, 2), (2, 4)), [[0], [0], [2], [0], [2, 2]])
        self.assertEqual(ends_of((0, 1), (1, 2), (2, 3), (3, 4)), [[0], [2], [2], [2], [2, 1]])

    def test_the_most_are_at_the_last_station(self):
        self.assertEqual(ends_of((1, 3), (0, 3), (3, 4)), [[0], [1], [0], [3], [3, 3]])

    def test_several_stations_have_as_many(self):
        self.assertEqual(ends_of((0, 2), (2, 3), (3, 4), (0, 1)), [[0], [1], [2], [2], [2, 2]])
        self.assertEqual(ends_of((1, 3), (1, 3)), [[0], [2], [0], [2], [2, 1]])

    def test_a_lifted_ply_has_none(self):
        calls = [lay(0, 2, 0), lay(1, 4, 0), lift(0)]
        self.assertEqual(after(calls, ends(1), ends(2), WORST, lift(1), WORST), [[1], [0], [1, 1], [30], [0, 0]])

    def test_a_followed_plan_has_its_ends(self):
        calls = (start(1, 4, [2, 6, 3]), roll(0, 99), WORST, follow(0), ends(0), ends(1), ends(2), WORST)
        self.assertEqual(ask(*calls)[2:], [[0, 0], [6], [0], [4], [3], [4, 1]])

    def test_as_many_as_there_may_be(self):
        calls = (start(1, 20, [12] * 12), roll(0, 99), *[lay(9, 10, 0)] * 10, *[lay(10, 11, 0)] * 10, WORST, ends(11))
        self.assertEqual(ask(*calls)[22:], [[20, 10], [10]])

    def test_no_such_station(self):
        self.assertEqual(after([lay(0, 2, 0)], ends(3), ends(4), ends(12), ends(MOST)), [[0], [-22], [-22], [-22]])

    def test_one_station(self):
        calls = (start(1, 1, [2]), roll(0, 9), lay(0, 1, 0), lay(0, 1, 0), ends(0), ends(1), WORST)
        self.assertEqual(ask(*calls)[4:], [[0], [-22], [0, 0]])

    def test_twelve_stations(self):
        calls = (start(1, 1, [2] * 12), roll(0, 99), lay(0, 11, 0), ends(10), ends(11), ends(12), WORST)
        self.assertEqual(ask(*calls)[3:], [[0], [1], [-22], [1, 11]])

    def test_a_swap_and_a_need_change_no_ends(self):
        calls = [lay(0, 2, 0), lay(1, 4, 1), swap(0, 1), set_need(3, 1)]
        self.assertEqual(after(calls, *[ends(b) for b in range(4)], WORST), [[0], [1], [1], [0], [1, 1]])

    def test_a_second_start_has_none(self):
        calls = [lay(0, 2, 0), start(1, 1, [1, 1, 1])]
        self.assertEqual(after(calls, ends(2), ends(3), WORST), [[0], [-22], [0, 0]])


class StackAndKinds(unittest.TestCase):
    def test_a_station_without_plies(self):
        self.assertEqual(after([], stack(0), kinds(0), alike(0)), [[0], [4, 0, 0, 0, 0], [0]])
        calls = [lay(0, 1, 0), lay(2, 4, 0)]
        self.assertEqual(after(calls, stack(1), kinds(1), alike(1)), [[0], [4, 0, 0, 0, 0], [0]])

    def test_the_plies_that_cover_the_station(self):
        calls = [lay(0, 2, 3), lay(1, 3, 0), lay(2, 4, 3), lay(1, 4, 1)]
        self.assertEqual(after(calls, *[stack(b) for b in range(4)]), [[1, 0], [3, 0, 1, 3], [3, 1, 2, 3], [2, 2, 3]])
        self.assertEqual(after(calls, *[kinds(b) for b in range(4)]), [
            [4, 0, 0, 0, 1], [4, 1, 1, 0, 1], [4, 1, 1, 0, 1], [4, 0, 1, 0, 1],
        ])

    def test_they_lie_by_their_numbers_not_as_they_were_laid(self):
        calls = [*laid_of(0, 1, 2), lift(0), lay(1, 3, 3), lift(1), lay(0, 3, 0)]
        self.assertEqual(after(calls, stack(0), stack(1), stack(2)), [[2, 1, 2], [3, 0, 1, 2], [2, 0, 1]])
        self.assertEqual(after(calls, kinds(0), kinds(1), kinds(2)), [
            [4, 1, 0, 1, 0], [4, 1, 0, 1, 1], [4, 1, 0, 0, 1],
        ])

    def test_a_lifted_ply_is_not_in_it(self):
        calls = [*laid_of(1, 1, 2), lift(1)]
        self.assertEqual(after(calls, stack(0), kinds(0)), [[2, 0, 2], [4, 0, 1, 1, 0]])

    def test_twelve_layers(self):
        calls = [lay(3, 4, layer % 4) for layer in range(12)]
        self.assertEqual(after(calls, stack(3), kinds(3), alike(3)), [[12] + list(range(12)), [4, 3, 3, 3, 3], [1]])

    def test_numbers_of_two_digits_are_behind_those_of_one(self):
        calls = [*[lay(0, 1, 0)] * 9, *[lay(1, 2, 0)] * 3, lift(2), lay(1, 2, 0)]
        self.assertEqual(after(calls, stack(1)), [[4, 2, 9, 10, 11]])

    def test_no_such_station(self):
        for station in (4, 12, MOST):
            answered = after(laid_of(0, 0), stack(station), kinds(station), alike(station))
            self.assertEqual(answered, [[-22], [-22], [-22]], station)

    def test_the_last_of_one_and_of_twelve_stations(self):
        for stations in (1, 12):
            calls = (start(1, 1, [1] * stations), roll(2, 12), lay(0, stations, 2))
            edge = (stack, kinds, alike)
            answered = ask(*calls, *[call(stations - 1) for call in edge], *[call(stations) for call in edge])
            self.assertEqual(answered[3:], [[1, 0], [4, 0, 0, 1, 0], [1], [-22], [-22], [-22]])

    def test_a_followed_plan_lies_on_what_is_there(self):
        calls = [set_need(0, 4), *laid_of(1, 2), set_need(1, 2), set_need(2, 0), set_need(3, 0), follow(2)]
        self.assertEqual(after(calls, stack(0), kinds(0), alike(0)), [[4, 0, 1, 2, 3], [4, 0, 1, 3, 0], [3]])


class Alike(unittest.TestCase):
    def test_how_many_of_one_kind_lie_one_on_another(self):
        for of_kinds, answer in (
            ((0,), 1), ((3,), 1), ((0, 0), 2), ((0, 1), 1), ((0, 0, 0), 3), ((2, 3, 3), 2), ((3, 3, 2), 2),
            ((1, 2, 1, 2, 1), 1), ((1, 1, 2, 1, 1, 1, 2), 3), ((1, 1, 1, 2, 1, 1), 3), ((0, 0, 3, 3, 3, 3), 4),
            ((3, 3, 0, 0, 1, 1), 2), ((2,) * 12, 12), ((2,) * 6 + (0,) + (2,) * 5, 6),
        ):
            self.assertEqual(after(laid_of(*of_kinds), alike(0), alike(1), alike(2)), [[answer], [answer], [0]])

    def test_only_plies_of_the_station_lie_between(self):
        calls = [lay(0, 2, 1), lay(1, 3, 0), lay(0, 3, 1)]
        self.assertEqual(after(calls, *[alike(b) for b in range(4)]), [[2], [1], [1], [0]])

    def test_plies_side_by_side_do_not_lie_on_one_another(self):
        self.assertEqual(after([lay(0, 1, 1), lay(1, 2, 1), lay(2, 3, 1)], alike(0), alike(1)), [[1], [1]])

    def test_a_lift_brings_two_together(self):
        self.assertEqual(after(laid_of(1, 0, 1), alike(0), lift(1), alike(0)), [[1], [20], [2]])

    def test_a_number_that_is_free_again_parts_two(self):
        calls = [*laid_of(1, 2, 1), lift(1)]
        answered = after(calls, alike(0), lay(0, 2, 3), alike(0), lay(0, 2, 1), alike(0))
        self.assertEqual(answered, [[2], [1], [1], [3], [2]])


class Swap(unittest.TestCase):
    def test_each_has_the_other_ones_number(self):
        calls = [lay(0, 1, 0), lay(1, 3, 1), lay(0, 4, 2)]
        for one, other in ((0, 1), (1, 0)):
            self.assertEqual(after(calls, swap(one, other), *[stack(b) for b in range(4)], lift(0), lift(1)), [
                [0], [2, 1, 2], [2, 0, 2], [2, 0, 2], [1, 2], [20], [10],
            ])

    def test_it_parts_two_alike(self):
        calls = laid_of(0, 0, 1)
        self.assertEqual(after(calls, alike(0), swap(1, 2), alike(0), kinds(0), stack(0)), [
            [2], [0], [1], [4, 2, 1, 0, 0], [3, 0, 1, 2],
        ])

    def test_it_brings_two_together(self):
        self.assertEqual(after(laid_of(0, 1, 0, 1), alike(0), swap(1, 2), alike(0)), [[1], [0], [2]])

    def test_twice_it_is_as_before(self):
        calls = [lay(0, 1, 0), lay(0, 2, 1), lay(0, 3, 1)]
        seen = [question(b) for b in range(4) for question in (stack, kinds, alike)]
        self.assertEqual(after([*calls, swap(0, 2), swap(2, 0)], *seen), after(calls, *seen))

    def test_no_such_ply(self):
        calls = [*laid_of(0, 1, 2), lift(1)]
        for one, other in ((0, 1), (1, 0), (0, 3), (3, 0), (1, 3), (0, 40), (MOST, 2), (2, MOST)):
            self.assertEqual(after(calls, swap(one, other), stack(0), kinds(0)), [[-2], [2, 0, 2], [4, 1, 0, 1, 0]])

    def test_a_ply_with_itself(self):
        self.assertEqual(after(laid_of(0, 1), swap(0, 0), swap(1, 1), stack(0)), [[-22], [-22], [2, 0, 1]])

    def test_2_is_ahead_of_22(self):
        self.assertEqual(after([*laid_of(0, 1), lift(0)], swap(0, 0), swap(2, 2), swap(MOST, MOST)), [[-2]] * 3)

    def test_it_takes_no_fabric_and_changes_no_layers(self):
        calls = [lay(0, 1, 0), lay(1, 4, 1)]
        seen = (LACKS, METRES, STATE, *[stock(kind) for kind in range(4)])
        self.assertEqual(after([*calls, swap(0, 1)], *seen), after(calls, *seen))

    def test_the_least_free_number_stays_as_it_is(self):
        calls = [*laid_of(0, 1, 2), lift(0), swap(1, 2)]
        self.assertEqual(after(calls, lay(0, 4, 3), stack(0), kinds(2)), [[0], [3, 0, 1, 2], [4, 0, 0, 0, 1]])

    def test_a_swapped_ply_is_lifted_by_its_new_number(self):
        calls = [lay(0, 1, 0), lay(0, 3, 1), swap(0, 1)]
        self.assertEqual(after(calls, lift(0), LACKS, kinds(0)), [[30], [4, 11, 12, 12, 12], [4, 1, 0, 0, 0]])

    def test_among_forty(self):
        full = (start(1, 20, [10] * 4), roll(0, 40), *[lay(b, b + 1, 0) for b in range(4) for i in range(10)])
        self.assertEqual(ask(*full, swap(0, 39), swap(39, 40), stack(0), stack(3))[42:], [
            [0], [-2], [10, *range(1, 10), 39], [10, 0, *range(30, 39)],
        ])
        self.assertEqual(last(*full, swap(39, 39)), [-22])
