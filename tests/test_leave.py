import contextlib
import io
import itertools
import unittest

from helper import HOUSES, TOP, WRONG_HOUSES, Untouchable, governs, hates_of_40, leavings, sets_of
from leavefor.offices import deal, leave, mays


class Ordinary(unittest.TestCase):
    def test_two_parties(self):
        # Together they have 2 and 1; the first alone has 3.
        self.assertEqual(leave(3, 3, [7, 6], []), [1, 1])
        self.assertEqual(leave(3, 1, [7, 6], []), [0])

    def test_three_parties(self):
        # 3 has 3 2 0, 5 has 4 0 1, 6 has 0 3 2, 7 has 2 2 1.
        self.assertEqual(leave(5, 3, [40, 30, 20], []), [2, 5, 6])
        self.assertEqual(leave(5, 5, [40, 30, 20], []), [1, 6])
        self.assertEqual(leave(5, 6, [40, 30, 20], []), [0])
        self.assertEqual(leave(5, 7, [40, 30, 20], []), [1, 6])

    def test_three_parties_with_a_hate(self):
        self.assertEqual(leave(5, 3, [40, 30, 20], [2, 0]), [1, 6])
        self.assertEqual(leave(5, 6, [40, 30, 20], [2, 0]), [0])

    def test_four_parties(self):
        # 10 has 0 1 0 3, 12 has 0 0 2 2.
        self.assertEqual(leave(4, 12, [10, 20, 30, 40], []), [1, 10])
        self.assertEqual(leave(4, 10, [10, 20, 30, 40], []), [0])

    def test_five_parties(self):
        # 7 has 2 2 1 0 0, 25 has 3 0 0 1 1, 28 has 0 0 2 2 1.
        self.assertEqual(leave(5, 7, [9, 8, 7, 6, 5], []), [2, 25, 28])
        self.assertEqual(leave(5, 7, [9, 8, 7, 6, 5], [0, 4]), [1, 28])

    def test_six_parties(self):
        # 61 has 4 0 2 2 1 1, 14 has 0 4 3 3 0 0, 19 has 5 3 0 0 2 0, 21 has 5 0 3 0 2 0.
        self.assertEqual(leave(10, 61, [200, 150, 120, 100, 80, 60], []), [3, 14, 19, 21])
        self.assertEqual(leave(10, 61, [200, 150, 120, 100, 80, 60], [1, 0]), [2, 14, 21])
        self.assertEqual(leave(10, 62, [200, 150, 120, 100, 80, 60], [1, 0]), [0])

    def test_from_every_set_of_many_houses(self):
        for seats, hates in HOUSES:
            for m in (1, 2, 3, 7, 10):
                for s, sets in leavings(m, seats, hates).items():
                    with self.subTest(m=m, s=s, seats=seats, hates=hates):
                        self.assertEqual(leave(m, s, seats, hates), [len(sets)] + sets)

    def test_from_every_set_of_every_small_house_of_three(self):
        for seats in itertools.product(range(1, 6), repeat=3):
            for m, hates in itertools.product((1, 3, 4), ([], [2, 1])):
                for s, sets in leavings(m, seats, hates).items():
                    with self.subTest(m=m, s=s, seats=seats, hates=hates):
                        self.assertEqual(leave(m, s, list(seats), hates), [len(sets)] + sets)


class Edges(unittest.TestCase):
    def test_one_party(self):
        self.assertEqual(leave(1, 1, [1], []), [0])
        self.assertEqual(leave(10, 1, [200], []), [0])

    def test_as_many_seats(self):
        # 3 has 2 1 0, 5 has 2 0 1, 6 has 0 2 1, 7 has 1 1 1.
        self.assertEqual(leave(3, 3, [9, 9, 9], []), [1, 6])
        for s in (5, 6, 7):
            self.assertEqual(leave(3, s, [9, 9, 9], []), [0])

    def test_as_many_offices_are_not_more(self):
        # In 3, 5 and 6 both have one each; 7 has 1 1 0.
        for s in (3, 5, 6, 7):
            self.assertEqual(leave(2, s, [9, 9, 9], []), [0])

    def test_one_who_has_not_more_is_enough_to_stay(self):
        # From 3 to 5 and back, party 0 keeps its two, though the other comes from none.
        self.assertEqual(leave(3, 3, [50, 30, 20], []), [0])
        self.assertEqual(leave(3, 5, [50, 30, 20], []), [0])
        # From 3 to 7, party 2 alone has more; party 1 keeps its two, party 0 loses one.
        self.assertNotIn(7, leave(5, 3, [40, 30, 20], [])[1:])

    def test_who_gets_no_office_does_not_come_along(self):
        # 3 has 1 1 0; in 5 and 6 the greater party has 2, but party 2 none, as before.
        self.assertEqual(deal(2, 5, [45, 40, 10], []), [1, 2, 0, 0, 0, 0, 0])
        self.assertEqual(leave(2, 3, [45, 40, 10], []), [0])
        self.assertEqual(leave(2, 2, [45, 40, 10], []), [0])
        self.assertEqual(leave(2, 4, [45, 40, 10], []), [1, 3])
        # Of five offices party 2 has one in both: 3 has 3 2 0, 5 has 4 0 1, 6 has 0 4 1.
        self.assertEqual(leave(5, 3, [45, 40, 10], []), [2, 5, 6])

    def test_one_office(self):
        self.assertEqual(leave(1, 2, [7, 6], []), [1, 1])
        for s in sets_of([40, 30, 20]):
            # Each set that may govern has a second party, who gets none.
            self.assertEqual(leave(1, s, [40, 30, 20], []), [0])

    def test_somebody_outside_the_set_had_none(self):
        # Party 2 isn't in 3, and has 2 of the 5 in 6.
        self.assertIn(6, leave(5, 3, [40, 30, 20], [])[1:])

    def test_somebody_of_the_set_had_none(self):
        # 7 has 0 2 2, 3 has 1 3 0, 5 has 1 0 3.
        self.assertEqual(leave(4, 7, [1, 3, 3], []), [2, 3, 5])

    def test_nobody_in_common_with_the_set(self):
        self.assertEqual(leave(5, 1, [40, 30, 20], []), [1, 6])
        self.assertEqual(leave(4, 1, [10, 20, 30, 40], []), [3, 10, 12, 14])

    def test_just_half_is_not_left_for(self):
        # The first alone has just half, and would have all 3 offices.
        self.assertEqual(leave(3, 3, [50, 30, 20], []), [0])
        self.assertEqual(leave(3, 3, [50, 29, 20], []), [1, 1])
        self.assertEqual(leave(3, 1, [50, 30, 20], []), [0])
        self.assertEqual(leave(3, 4, [50, 30, 20], []), [1, 3])

    def test_hates_either_way_about(self):
        for hates in ([0, 2], [2, 0], [0, 2, 2, 0], [2, 0, 2, 0]):
            with self.subTest(hates=hates):
                self.assertEqual(leave(5, 3, [40, 30, 20], hates), [1, 6])

    def test_neighbours_in_the_list_that_are_no_two(self):
        # 1 and 2 don't hate each other, though their numbers lie side by side.
        self.assertEqual(leave(2, 8, [1, 9, 9, 1], [0, 1, 2, 3]), [1, 6])

    def test_from_a_set_that_may_not_govern(self):
        # Too few seats.
        self.assertEqual(leave(5, 1, [40, 30, 20], []), [1, 6])
        self.assertEqual(leave(5, 2, [40, 30, 20], []), [1, 5])
        self.assertEqual(leave(5, 4, [40, 30, 20], []), [1, 3])
        # Two who hate each other: 5 has 4 0 1, 7 has 2 2 1.
        self.assertEqual(leave(5, 5, [40, 30, 20], [2, 0]), [1, 6])
        self.assertEqual(leave(5, 7, [40, 30, 20], [2, 0]), [1, 6])

    def test_for_a_set_that_may_not_govern(self):
        # Without the hates it is left for 5 and 6.
        self.assertEqual(leave(5, 3, [40, 30, 20], [0, 2]), [1, 6])
        self.assertEqual(leave(5, 3, [40, 30, 20], [0, 2, 1, 2]), [0])

    def test_no_set_may_govern(self):
        for s in (1, 2, 3):
            self.assertEqual(leave(4, s, [7, 7], [0, 1]), [0])
        for s in sets_of([200] * 6):
            self.assertEqual(leave(10, s, [200] * 6, hates_of_40()), [0])

    def test_the_greatest_house(self):
        # 5 has 7 0 3, 6 has 0 7 3, 7 has 4 4 2.
        hates = [0, 1] * 20
        self.assertEqual(leave(10, 3, [200, 200, 100], hates), [2, 5, 6])
        self.assertEqual(leave(10, 5, [200, 200, 100], hates), [0])
        self.assertEqual(leave(10, 7, [200, 200, 100], hates), [2, 5, 6])
        # 60 has 3 3 2 2 from party 2 on, 61 and 62 have 2 each.
        self.assertEqual(leave(10, 1, [200] * 6, hates), [6, 30, 46, 54, 58, 60, 62])
        self.assertEqual(leave(10, 3, [200] * 6, hates), [1, 60])
        self.assertEqual(leave(10, 60, [200] * 6, hates), [0])
        self.assertEqual(leave(10, 63, [200] * 6, hates), [5, 53, 54, 57, 58, 60])


class Refusals(unittest.TestCase):
    def test_wrong_houses(self):
        for why, m, seats, hates in WRONG_HOUSES:
            with self.subTest(why):
                self.assertEqual(leave(m, 1, seats, hates), [-22])

    def test_nobody(self):
        self.assertEqual(leave(1, 0, [3, 2], []), [-2])

    def test_somebody_who_is_none(self):
        for s in (4, 5, 6, 7, 8, 2 ** 31, TOP):
            with self.subTest(s=s):
                self.assertEqual(leave(1, s, [3, 2], []), [-2])
        self.assertEqual(leave(1, 2, [3], []), [-2])
        self.assertEqual(leave(1, 64, [3] * 6, []), [-2])
        self.assertEqual(leave(1, 65, [3] * 6, []), [-2])

    def test_the_greatest_set_that_there_is(self):
        for parties in range(1, 7):
            self.assertGreaterEqual(leave(1, 2 ** parties - 1, [3] * parties, [])[0], 0)
            self.assertEqual(leave(1, 2 ** parties, [3] * parties, []), [-2])

    def test_a_set_that_is_none_where_no_set_may_govern(self):
        self.assertEqual(leave(1, 0, [7, 7], [0, 1]), [-2])
        self.assertEqual(leave(1, 4, [7, 7], [0, 1]), [-2])

    def test_a_wrong_house_comes_before_a_wrong_set(self):
        for why, m, seats, hates in WRONG_HOUSES:
            for s in (0, 2 ** len(seats), TOP):
                with self.subTest(why, s=s):
                    self.assertEqual(leave(m, s, seats, hates), [-22])


class WhatHolds(unittest.TestCase):
    def test_the_sets_are_rising_and_counted(self):
        for seats, hates in HOUSES:
            for s in sets_of(seats):
                count, *sets = leave(4, s, seats, hates)
                self.assertEqual(sets, sorted(set(sets)), (s, seats, hates))
                self.assertEqual(count, len(sets), (s, seats, hates))

    def test_each_may_govern_and_is_another(self):
        for seats, hates in HOUSES:
            for s in sets_of(seats):
                for other in leave(7, s, seats, hates)[1:]:
                    self.assertTrue(governs(other, seats, hates), (s, other, seats, hates))
                    self.assertNotEqual(other, s, (seats, hates))

    def test_of_two_that_may_govern_one_at_the_most_is_left_for_the_other(self):
        for seats, hates in HOUSES:
            for m in (1, 4, 10):
                sets = mays(m, seats, hates)[1:]
                lefts = {s: leave(m, s, seats, hates)[1:] for s in sets}
                for one, other in itertools.combinations(sets, 2):
                    both = other in lefts[one] and one in lefts[other]
                    self.assertFalse(both, (m, one, other, seats, hates))

    def test_who_has_more_than_half_alone_leaves_for_none(self):
        for seats in ([1], [3, 2], [2, 3], [51, 30, 20], [1, 1, 200], [9, 1, 2, 3, 1, 1], [1, 1, 1, 1, 1, 6]):
            great = seats.index(max(seats))
            for m in range(1, 11):
                for hates in ([], [0, 1] * 20 if len(seats) > 1 else []):
                    with self.subTest(m=m, seats=seats, hates=hates):
                        self.assertEqual(leave(m, 2 ** great, seats, hates), [0])


class TheCall(unittest.TestCase):
    def test_names_of_what_is_handed_in(self):
        self.assertEqual(leave(m=3, s=3, seats=[7, 6], hates=[]), [1, 1])

    def test_the_answer_is_a_list_of_whole_numbers(self):
        answers = (
            leave(3, 3, [7, 6], []), leave(3, 1, [7, 6], []), leave(3, 1, [1, 1], [0, 1]),
            leave(0, 1, [1], []), leave(1, 0, [1], []),
        )
        for answer in answers:
            self.assertIs(type(answer), list)
            self.assertEqual({type(number) for number in answer}, {int})

    def test_what_is_handed_in_is_not_changed(self):
        seats, hates = Untouchable([40, 30, 20]), Untouchable([2, 0])
        for s in range(9):
            leave(5, s, seats, hates)
            self.assertEqual((seats, hates), ([40, 30, 20], [2, 0]))
        for why, m, seats, hates in WRONG_HOUSES:
            handed = Untouchable(seats), Untouchable(hates)
            leave(m, 1, *handed)
            self.assertEqual(handed, (seats, hates), why)

    def test_nothing_is_kept(self):
        seats, hates = [40, 30, 20], []
        first = leave(5, 3, seats, hates)
        self.assertEqual(first, [2, 5, 6])
        first.append(99)
        first[1] = 99
        leave(10, 1, [200], [])
        leave(0, 0, [], [1])
        self.assertEqual(leave(5, 3, seats, hates), [2, 5, 6])
        self.assertEqual(leave(5, 8, seats, hates), [-2])
        self.assertEqual(leave(5, 8, seats, hates), [-2])
        self.assertEqual(leave(0, 3, seats, hates), [-22])
        self.assertEqual(leave(0, 3, seats, hates), [-22])

    def test_nothing_is_printed(self):
        out, err = io.StringIO(), io.StringIO()
        with contextlib.redirect_stdout(out), contextlib.redirect_stderr(err):
            leave(5, 3, [40, 30, 20], [])
            leave(5, 0, [40, 30, 20], [])
            leave(0, 3, [40, 30, 20], [])
        self.assertEqual(out.getvalue() + err.getvalue(), "")


if __name__ == "__main__":
    unittest.main()
