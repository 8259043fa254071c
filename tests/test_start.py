import contextlib
import io
import unittest

from blademould.layup import answers
from tests.helper import (
    AFTER_START, FABRIC, FEWEST, GOES, LACKS, METRES, MOST, PLAN, STATE, WORST, Frozen, alike, ask, ends, follow, kinds,
    last, lay, lift, missing, roll, set_need, stack, start, stock, swap,
)


class Start(unittest.TestCase):
    def test_answers_how_many_stations(self):
        self.assertEqual(ask(start(10, 3, [2, 4, 1])), [[3]])

    def test_one_station_and_twelve(self):
        self.assertEqual(last(start(10, 3, [5])), [1])
        self.assertEqual(last(start(10, 3, [5] * 12)), [12])

    def test_no_station_and_thirteen_are_refused(self):
        self.assertEqual(last(start(10, 3, [])), [-22])
        self.assertEqual(last(start(10, 3, [5] * 13)), [-22])
        self.assertEqual(last(start(10, 3, [5] * 60)), [-22])

    def test_long_is_1_to_100(self):
        for long, answer in ((0, -22), (1, 2), (100, 2), (101, -22), (MOST, -22)):
            self.assertEqual(last(start(long, 3, [1, 1])), [answer], long)

    def test_ends_are_1_to_20(self):
        for ends, answer in ((0, -22), (1, 2), (20, 2), (21, -22), (MOST, -22)):
            self.assertEqual(last(start(10, ends, [1, 1])), [answer], ends)

    def test_a_need_is_at_most_12_at_each_station(self):
        for need, answer in ((0, 3), (12, 3), (13, -22), (MOST, -22)):
            for place in range(3):
                table = [1, 1, 1]
                table[place] = need
                self.assertEqual(last(start(10, 3, table)), [answer], table)

    def test_a_refused_start_reads_on_behind_its_need(self):
        self.assertEqual(ask(start(0, 3, [6, 7, 8]), LACKS, start(1, 1, [0]), LACKS), [[-22], [-11], [1], [1, 0]])
        self.assertEqual(ask(start(1, 1, []), FEWEST, start(1, 1, [4])), [[-22], [-11], [1]])


class BeforeStart(unittest.TestCase):
    def test_every_other_call_answers_minus_11(self):
        for call in AFTER_START:
            self.assertEqual(ask(call), [[-11]], call)
        self.assertEqual(ask(*AFTER_START, *AFTER_START), [[-11]] * 2 * len(AFTER_START))

    def test_also_where_its_numbers_would_be_refused(self):
        calls = [set_need(MOST, MOST), roll(MOST, 0), lay(5, 2, 9), lift(MOST), missing(MOST)]
        calls += [follow(MOST), ends(MOST), stack(MOST), kinds(MOST), alike(MOST), swap(MOST, MOST), stock(MOST)]
        self.assertEqual(ask(*calls), [[-11]] * 12)

    def test_also_after_a_refused_start(self):
        for refused in (start(0, 1, [1]), start(1, 0, [1]), start(1, 1, []), start(1, 1, [13])):
            self.assertEqual(ask(refused, *AFTER_START), [[-22]] + [[-11]] * len(AFTER_START))

    def test_what_was_called_before_a_start_had_no_effect(self):
        self.assertEqual(ask(roll(0, 100), start(10, 3, [1]), lay(0, 1, 0)), [[-11], [1], [-12]])


class SecondStart(unittest.TestCase):
    BUSY = (start(10, 1, [2, 2]), roll(0, 50), roll(3, 7), lay(0, 1, 0), lay(0, 2, 0), lift(0))

    def test_it_has_its_own_stations_and_no_plies(self):
        answered = ask(*self.BUSY, start(7, 2, [0, 3, 1]), LACKS, FABRIC, lift(1), missing(2), missing(3))
        self.assertEqual(answered[6:], [[3], [3, 0, 3, 1], [28], [-2], [1], [-22]])

    def test_it_has_no_fabric(self):
        calls = (start(1, 2, [1, 1]), lay(0, 1, 0), lay(0, 1, 3), roll(0, 1), roll(3, 2), lay(0, 1, 0))
        answered = ask(*self.BUSY, *calls)
        self.assertEqual(answered[6:], [[2], [-12], [-12], [1], [2], [0]])

    def test_its_ends_are_its_own(self):
        fabric = roll(0, 100)
        answered = ask(*self.BUSY, start(10, 2, [2, 2]), fabric, lay(0, 1, 0), lay(1, 2, 0), lay(0, 1, 0))
        self.assertEqual(answered[8:], [[0], [1], [-13]])

    def test_a_refused_one_changes_nothing(self):
        seen = (LACKS, PLAN, GOES, FABRIC, WORST, METRES, STATE, roll(0, 1), roll(3, 1), lay(0, 1, 0), lift(1))
        for refused in (start(101, 1, [1]), start(5, 21, [1]), start(5, 1, [1] * 13), start(5, 1, [3, 13])):
            answered = ask(*self.BUSY, refused, *seen)
            self.assertEqual(answered[6], [-22])
            self.assertEqual(answered[7:], ask(*self.BUSY, *seen)[6:])


class Interface(unittest.TestCase):
    def test_each_answer_has_its_length_ahead(self):
        calls = [0, 10, 3, 2, 1, 2, 6, 8, 5, 7, 10]
        self.assertEqual(answers(calls), [1, 2, 3, 2, 1, 2, 5, 2, 0, 2, 1, 2, 1, -22, 1, 30])

    def test_what_is_handed_in_is_not_changed(self):
        calls = [0, 10, 3, 2, 1, 2, 1, 0, 4, 2, 0, 99, 3, 0, 1, 0, 4, 0, 8]
        before = list(calls)
        answers(calls)
        self.assertEqual(calls, before)
        self.assertEqual(answers(Frozen(calls)), answers(calls))

    def test_nothing_is_kept_from_one_time_to_the_next(self):
        calls = [0, 10, 3, 2, 1, 2, 2, 0, 99, 3, 0, 1, 0, 6]
        first = answers(calls)
        self.assertEqual(answers([6]), [1, -11])
        self.assertEqual(answers(calls), first)

    def test_what_was_given_back_is_not_kept_either(self):
        first = answers([0, 10, 3, 2, 1, 2, 6])
        first.clear()
        self.assertEqual(answers([0, 10, 3, 2, 1, 2, 6]), [1, 2, 3, 2, 1, 2])

    def test_it_prints_nothing(self):
        printed = io.StringIO()
        with contextlib.redirect_stdout(printed), contextlib.redirect_stderr(printed):
            ask(start(10, 3, [1, 2]), *AFTER_START)
        self.assertEqual(printed.getvalue(), "")

    def test_two_hundred_calls(self):
        self.assertEqual(ask(start(1, 1, [1] * 12), *[LACKS] * 199)[1:], [[12] + [1] * 12] * 199)
        self.assertEqual(ask(*[start(1, 1, [1] * 60)] * 200), [[-22]] * 200)
