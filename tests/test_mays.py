import contextlib
import io
import itertools
import unittest

from helper import HOUSES, WRONG_HOUSES, Untouchable, governs, hates_of_40, sets_of
from leavefor.offices import mays


class Ordinary(unittest.TestCase):
    def test_two_parties(self):
        self.assertEqual(mays(3, [7, 6], []), [2, 1, 3])
        self.assertEqual(mays(3, [6, 7], []), [2, 2, 3])

    def test_three_parties(self):
        self.assertEqual(mays(5, [40, 30, 20], []), [4, 3, 5, 6, 7])

    def test_three_parties_with_a_hate(self):
        self.assertEqual(mays(5, [40, 30, 20], [2, 0]), [2, 3, 6])

    def test_four_parties(self):
        self.assertEqual(mays(1, [10, 20, 30, 40], []), [7, 7, 10, 11, 12, 13, 14, 15])

    def test_four_parties_with_hates(self):
        self.assertEqual(mays(1, [10, 20, 30, 40], [3, 1, 0, 2]), [1, 12])

    def test_five_parties(self):
        self.assertEqual(mays(2, [60, 10, 10, 10, 10], [0, 1, 0, 2, 3, 4]), [3, 1, 9, 17])

    def test_six_parties(self):
        self.assertEqual(mays(2, [1, 1, 1, 1, 1, 6], [5, 0, 5, 1, 2, 5, 3, 5]), [2, 32, 48])

    def test_every_one_of_many_houses(self):
        for seats, hates in HOUSES:
            with self.subTest(seats=seats, hates=hates):
                sets = [s for s in sets_of(seats) if governs(s, seats, hates)]
                self.assertEqual(mays(4, seats, hates), [len(sets)] + sets)

    def test_every_small_house_of_four(self):
        for seats in itertools.product(range(1, 5), repeat=4):
            for hates in ([], [2, 1]):
                with self.subTest(seats=seats, hates=hates):
                    sets = [s for s in sets_of(seats) if governs(s, seats, hates)]
                    self.assertEqual(mays(4, list(seats), hates), [len(sets)] + sets)

    def test_how_many_offices_does_not_matter(self):
        for m in range(1, 11):
            self.assertEqual(mays(m, [40, 30, 20], [2, 0]), [2, 3, 6])


class Edges(unittest.TestCase):
    def test_one_party(self):
        self.assertEqual(mays(1, [1], []), [1, 1])
        self.assertEqual(mays(10, [200], []), [1, 1])

    def test_as_many_seats(self):
        self.assertEqual(mays(1, [7, 7], []), [1, 3])
        self.assertEqual(mays(1, [9, 9, 9], []), [4, 3, 5, 6, 7])

    def test_just_half_is_not_enough(self):
        self.assertEqual(mays(1, [50, 30, 20], []), [3, 3, 5, 7])

    def test_one_seat_about_half(self):
        self.assertEqual(mays(1, [51, 30, 20], []), [4, 1, 3, 5, 7])
        self.assertEqual(mays(1, [50, 31, 20], []), [4, 3, 5, 6, 7])

    def test_hates_either_way_about(self):
        for hates in ([0, 1], [1, 0], [0, 1, 1, 0], [1, 0, 1, 0]):
            with self.subTest(hates=hates):
                self.assertEqual(mays(5, [40, 30, 20], hates), [2, 5, 6])

    def test_neighbours_in_the_list_that_are_no_two(self):
        self.assertEqual(mays(2, [1, 9, 9, 1], [0, 1, 2, 3]), [1, 6])

    def test_no_set_may_govern(self):
        self.assertEqual(mays(1, [7, 7], [0, 1]), [0])
        self.assertEqual(mays(1, [9, 9, 9], [0, 1, 0, 2, 2, 1]), [0])
        self.assertEqual(mays(10, [200] * 6, hates_of_40()), [0])

    def test_the_greatest_house(self):
        # Four or more of six like ones, but not both of the first two.
        self.assertEqual(mays(10, [200] * 6, [0, 1] * 20), [11, 29, 30, 45, 46, 53, 54, 57, 58, 60, 61, 62])


class Refusals(unittest.TestCase):
    def test_wrong_houses(self):
        for why, m, seats, hates in WRONG_HOUSES:
            with self.subTest(why):
                self.assertEqual(mays(m, seats, hates), [-22])


class WhatHolds(unittest.TestCase):
    def test_the_sets_are_rising_and_counted(self):
        for seats, hates in HOUSES:
            count, *sets = mays(4, seats, hates)
            self.assertEqual(sets, sorted(set(sets)), (seats, hates))
            self.assertEqual(count, len(sets), (seats, hates))

    def test_any_two_have_somebody_in_common(self):
        for seats, hates in HOUSES:
            sets = mays(4, seats, hates)[1:]
            for one, other in itertools.product(sets, repeat=2):
                self.assertNotEqual(one & other, 0, (seats, hates))


class TheCall(unittest.TestCase):
    def test_names_of_what_is_handed_in(self):
        self.assertEqual(mays(m=1, seats=[2], hates=[]), [1, 1])

    def test_the_answer_is_a_list_of_whole_numbers(self):
        for answer in (mays(3, [2, 1], []), mays(3, [1, 1], [0, 1]), mays(0, [1], [])):
            self.assertIs(type(answer), list)
            self.assertEqual({type(number) for number in answer}, {int})

    def test_what_is_handed_in_is_not_changed(self):
        seats, hates = Untouchable([40, 30, 20]), Untouchable([2, 0])
        mays(5, seats, hates)
        self.assertEqual((seats, hates), ([40, 30, 20], [2, 0]))
        for why, m, seats, hates in WRONG_HOUSES:
            handed = Untouchable(seats), Untouchable(hates)
            mays(m, *handed)
            self.assertEqual(handed, (seats, hates), why)

    def test_nothing_is_kept(self):
        seats, hates = [40, 30, 20], [2, 0]
        first = mays(5, seats, hates)
        first.append(99)
        first[1] = 99
        mays(10, [200], [])
        mays(0, [], [1])
        self.assertEqual(mays(5, seats, hates), [2, 3, 6])
        self.assertEqual(mays(0, seats, hates), [-22])
        self.assertEqual(mays(0, seats, hates), [-22])

    def test_nothing_is_printed(self):
        out, err = io.StringIO(), io.StringIO()
        with contextlib.redirect_stdout(out), contextlib.redirect_stderr(err):
            mays(5, [40, 30, 20], [2, 0])
            mays(0, [40, 30, 20], [2, 0])
        self.assertEqual(out.getvalue() + err.getvalue(), "")


if __name__ == "__main__":
    unittest.main()
