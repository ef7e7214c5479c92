import contextlib
import io
import itertools
import unittest

from helper import HOUSES, WRONG_HOUSES, Untouchable, governs, hates_of_40, leavings
from leavefor.offices import leave, mays, stable


def stable_of(m, seats, hates):
    return [s for s, sets in leavings(m, seats, hates).items() if governs(s, seats, hates) and not sets]


class Ordinary(unittest.TestCase):
    def test_two_parties(self):
        # Together they have 2 and 1; the greater one alone has 3.
        self.assertEqual(stable(3, [7, 6], []), [1, 1])
        self.assertEqual(stable(3, [6, 7], []), [1, 2])

    def test_three_parties(self):
        # 3 has 3 2 0, 5 has 4 0 1, 6 has 0 3 2, 7 has 2 2 1.
        self.assertEqual(stable(5, [40, 30, 20], []), [1, 6])

    def test_three_parties_with_a_hate(self):
        self.assertEqual(stable(5, [40, 30, 20], [2, 0]), [1, 6])
        self.assertEqual(stable(5, [40, 30, 20], [1, 2]), [1, 5])
        self.assertEqual(stable(5, [40, 30, 20], [1, 2, 0, 2]), [1, 3])

    def test_four_parties(self):
        # 12 and 13 have 0 0 2 2, 10 has 0 1 0 3; nobody leaves the others.
        self.assertEqual(stable(4, [10, 20, 30, 40], []), [5, 7, 10, 11, 14, 15])

    def test_four_parties_with_hates(self):
        self.assertEqual(stable(4, [10, 20, 30, 40], [3, 1, 0, 2]), [1, 12])

    def test_five_parties(self):
        self.assertEqual(stable(5, [9, 8, 7, 6, 5], []), [11, 14, 19, 21, 22, 25, 26, 27, 28, 29, 30, 31])

    def test_five_parties_with_hates(self):
        # 11 has 2 2 0 1 0, 13 has 2 0 2 1 0, 26 has 0 2 0 2 1, 28 has 0 0 2 2 1.
        self.assertEqual(stable(5, [9, 8, 7, 6, 5], [0, 4, 1, 2]), [2, 26, 28])

    def test_six_parties(self):
        # 5, 13, 21 and 29 have 2 0 4 0 0 0, and are left for 6 with 0 1 5 0 0 0.
        self.assertEqual(stable(6, [12, 11, 30, 5, 5, 17], [2, 5, 1, 3]), [5, 6, 7, 22, 23, 51])

    def test_every_one_of_many_houses(self):
        for seats, hates in HOUSES:
            for m in (1, 2, 3, 7, 10):
                with self.subTest(m=m, seats=seats, hates=hates):
                    sets = stable_of(m, seats, hates)
                    self.assertEqual(stable(m, seats, hates), [len(sets)] + sets)

    def test_every_small_house_of_three(self):
        for seats in itertools.product(range(1, 6), repeat=3):
            for m, hates in itertools.product((1, 3, 4), ([], [2, 1])):
                with self.subTest(m=m, seats=seats, hates=hates):
                    sets = stable_of(m, seats, hates)
                    self.assertEqual(stable(m, list(seats), hates), [len(sets)] + sets)


class Edges(unittest.TestCase):
    def test_one_party(self):
        self.assertEqual(stable(1, [1], []), [1, 1])
        self.assertEqual(stable(10, [200], []), [1, 1])

    def test_as_many_seats(self):
        self.assertEqual(stable(3, [7, 7], []), [1, 3])
        # 3 has 2 1 0, 5 has 2 0 1, 6 has 0 2 1, 7 has 1 1 1.
        self.assertEqual(stable(3, [9, 9, 9], []), [3, 5, 6, 7])

    def test_as_many_offices_are_not_more(self):
        # In 3, 5 and 6 both have one each; 7 has 1 1 0.
        self.assertEqual(stable(2, [9, 9, 9], []), [4, 3, 5, 6, 7])

    def test_a_party_that_gets_no_office(self):
        # 3 has 4 0, so the first has no more alone.
        self.assertEqual(stable(4, [200, 1], []), [2, 1, 3])
        # In 5 and 6 the greater has both offices, and party 2 none, as in 3 and 7.
        self.assertEqual(stable(2, [45, 40, 10], []), [4, 3, 5, 6, 7])

    def test_somebody_who_had_none_makes_it_unstable(self):
        # 6 and 7 have 0 2 2, 3 has 1 3 0, 5 has 1 0 3.
        self.assertEqual(stable(4, [1, 3, 3], []), [2, 3, 5])

    def test_one_office(self):
        self.assertEqual(stable(1, [7, 6], []), [2, 1, 3])
        self.assertEqual(stable(1, [40, 30, 20], []), [4, 3, 5, 6, 7])
        # Party 1 has the office in 3 already, and no more alone.
        self.assertEqual(stable(1, [6, 7], []), [2, 2, 3])

    def test_just_half_is_not_enough(self):
        # The first alone would have all 3 offices instead of 2.
        self.assertEqual(stable(3, [50, 30, 20], []), [3, 3, 5, 7])
        self.assertEqual(stable(3, [50, 29, 20], []), [1, 1])

    def test_hates_either_way_about(self):
        for hates in ([1, 2], [2, 1], [1, 2, 2, 1], [2, 1, 2, 1]):
            with self.subTest(hates=hates):
                self.assertEqual(stable(5, [40, 30, 20], hates), [1, 5])

    def test_neighbours_in_the_list_that_are_no_two(self):
        # 1 and 2 don't hate each other, though their numbers lie side by side.
        self.assertEqual(stable(2, [1, 9, 9, 1], [0, 1, 2, 3]), [1, 6])

    def test_no_set_may_govern(self):
        self.assertEqual(stable(1, [7, 7], [0, 1]), [0])
        self.assertEqual(stable(3, [9, 9, 9], [0, 1, 0, 2, 2, 1]), [0])
        self.assertEqual(stable(10, [200] * 6, hates_of_40()), [0])

    def test_a_set_that_may_not_govern_is_not_stable(self):
        # 1 and 6 are left for none either, but have just half of all seats.
        for s in (1, 6):
            self.assertEqual(leave(3, s, [50, 30, 20], []), [0])
            self.assertNotIn(s, stable(3, [50, 30, 20], [])[1:])

    def test_a_set_is_left_only_for_one_that_may_govern(self):
        # 3 would be left for 5 and 6, if 2 sat with anybody.
        self.assertEqual(stable(5, [40, 30, 20], [2, 0, 1, 2]), [1, 3])

    def test_some_set_is_left_and_some_not(self):
        # 3 and 7 have 3 2 0, and are left for 5 with 4 0 1 and 6 with 0 4 1.
        self.assertEqual(mays(5, [45, 40, 10], []), [4, 3, 5, 6, 7])
        self.assertEqual(stable(5, [45, 40, 10], []), [2, 5, 6])

    def test_a_set_that_is_left_for_a_left_one(self):
        # 3 is left for 5, and 5 for 6: none but 6 counts.
        self.assertEqual(leave(5, 3, [40, 30, 20], []), [2, 5, 6])
        self.assertEqual(leave(5, 5, [40, 30, 20], []), [1, 6])
        self.assertEqual(stable(5, [40, 30, 20], []), [1, 6])

    def test_the_greatest_house(self):
        hates = [0, 1] * 20
        self.assertEqual(stable(10, [200, 200, 100], hates), [2, 5, 6])
        self.assertEqual(stable(10, [200] * 6, hates), [11, 29, 30, 45, 46, 53, 54, 57, 58, 60, 61, 62])
        self.assertEqual(stable(10, [200, 150, 120, 100, 80, 60], hates), [8, 14, 37, 41, 46, 54, 58, 60, 62])


class Refusals(unittest.TestCase):
    def test_wrong_houses(self):
        for why, m, seats, hates in WRONG_HOUSES:
            with self.subTest(why):
                self.assertEqual(stable(m, seats, hates), [-22])


class WhatHolds(unittest.TestCase):
    def test_the_sets_are_rising_and_counted(self):
        for seats, hates in HOUSES:
            count, *sets = stable(4, seats, hates)
            self.assertEqual(sets, sorted(set(sets)), (seats, hates))
            self.assertEqual(count, len(sets), (seats, hates))

    def test_they_are_those_of_mays_from_which_leave_finds_none(self):
        for seats, hates in HOUSES:
            for m in range(1, 11):
                sets = [s for s in mays(m, seats, hates)[1:] if leave(m, s, seats, hates) == [0]]
                self.assertEqual(stable(m, seats, hates)[1:], sets, (m, seats, hates))

    def test_who_has_more_than_half_alone_is_among_them(self):
        for seats in ([1], [3, 2], [2, 3], [51, 30, 20], [1, 1, 200], [9, 1, 2, 3, 1, 1], [1, 1, 1, 1, 1, 6]):
            great = seats.index(max(seats))
            for m in range(1, 11):
                for hates in ([], [0, 1] * 20 if len(seats) > 1 else []):
                    with self.subTest(m=m, seats=seats, hates=hates):
                        self.assertIn(2 ** great, stable(m, seats, hates)[1:])

    def test_where_a_set_may_govern_one_is_left_for_none(self):
        # Who leaves lowers the last quotient that still gets an office, so no way goes on forever.
        for seats, hates in HOUSES:
            for m in range(1, 11):
                found = stable(m, seats, hates)[0] > 0
                self.assertEqual(found, mays(m, seats, hates)[0] > 0, (m, seats, hates))


class TheCall(unittest.TestCase):
    def test_names_of_what_is_handed_in(self):
        self.assertEqual(stable(m=3, seats=[7, 6], hates=[]), [1, 1])

    def test_the_answer_is_a_list_of_whole_numbers(self):
        for answer in (stable(3, [2, 1], []), stable(3, [1, 1], [0, 1]), stable(0, [1], [])):
            self.assertIs(type(answer), list)
            self.assertEqual({type(number) for number in answer}, {int})

    def test_what_is_handed_in_is_not_changed(self):
        seats, hates = Untouchable([40, 30, 20]), Untouchable([2, 0])
        stable(5, seats, hates)
        self.assertEqual((seats, hates), ([40, 30, 20], [2, 0]))
        for why, m, seats, hates in WRONG_HOUSES:
            handed = Untouchable(seats), Untouchable(hates)
            stable(m, *handed)
            self.assertEqual(handed, (seats, hates), why)

    def test_nothing_is_kept(self):
        seats, hates = [45, 40, 10], []
        first = stable(5, seats, hates)
        self.assertEqual(first, [2, 5, 6])
        first.append(99)
        first[1] = 99
        stable(10, [200], [])
        stable(0, [], [1])
        self.assertEqual(stable(5, seats, hates), [2, 5, 6])
        self.assertEqual(stable(0, seats, hates), [-22])
        self.assertEqual(stable(0, seats, hates), [-22])

    def test_nothing_is_printed(self):
        out, err = io.StringIO(), io.StringIO()
        with contextlib.redirect_stdout(out), contextlib.redirect_stderr(err):
            stable(5, [40, 30, 20], [2, 0])
            stable(0, [40, 30, 20], [2, 0])
        self.assertEqual(out.getvalue() + err.getvalue(), "")


if __name__ == "__main__":
    unittest.main()
