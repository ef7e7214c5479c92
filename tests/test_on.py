import contextlib
import io
import itertools
import unittest
from unittest import mock

from helper import HOUSES, TOP, WRONG_HOUSES, Untouchable, governs, hates_of_40, leavings, sets_of
from leavefor.offices import deal, leave, on, stable

# Each is (m, s, seats, hates): ways of three sets or more, of four to six parties.
LONG_WAYS = [
    (10, 4, [200, 125, 103, 25], [2, 3]),
    (10, 7, [106, 70, 200, 123], [3, 0, 3, 1]),
    (10, 8, [174, 91, 156, 200, 72], [4, 0]),
    (10, 2, [117, 79, 3, 200, 71], [3, 2]),
    (10, 10, [135, 119, 19, 51, 105, 60], []),
    (10, 39, [54, 83, 164, 124, 4, 200], [4, 1, 3, 0]),
]


def way_of(s, lefts):
    """The way from s, where lefts has of every set those that it is left for."""
    way = [s]
    while lefts[way[-1]] and way[-1] not in way[:-1]:
        way.append(lefts[way[-1]][0])
    return way[1:]


class Ordinary(unittest.TestCase):
    def test_two_parties(self):
        # Together they have 2 and 1; the first alone has 3.
        self.assertEqual(on(3, 3, [7, 6], []), [1, 1])
        self.assertEqual(on(3, 2, [7, 6], []), [1, 1])
        self.assertEqual(on(3, 1, [7, 6], []), [0])

    def test_three_parties(self):
        # 3 has 3 2 0, 5 has 4 0 1, 6 has 0 3 2, 7 has 2 2 1.
        self.assertEqual(on(5, 3, [40, 30, 20], []), [2, 5, 6])
        self.assertEqual(on(5, 5, [40, 30, 20], []), [1, 6])
        self.assertEqual(on(5, 6, [40, 30, 20], []), [0])
        self.assertEqual(on(5, 7, [40, 30, 20], []), [1, 6])

    def test_three_parties_with_a_hate(self):
        self.assertEqual(on(5, 3, [40, 30, 20], [2, 0]), [1, 6])
        self.assertEqual(on(5, 3, [40, 30, 20], [1, 2]), [1, 5])
        self.assertEqual(on(5, 4, [40, 30, 20], [1, 2]), [2, 3, 5])

    def test_four_parties(self):
        # 4 has 0 0 10 0, 3 has 6 4 0 0, 5 has 7 0 3 0, 6 has 0 6 4 0.
        self.assertEqual(on(10, 4, [200, 125, 103, 25], [2, 3]), [3, 3, 5, 6])
        # 7 has 3 2 5 0, 12 has 0 0 6 4, 5 has 3 0 7 0, 6 has 0 2 8 0.
        self.assertEqual(on(10, 7, [106, 70, 200, 123], [3, 0, 3, 1]), [3, 12, 5, 6])

    def test_five_parties(self):
        # 7 has 2 2 1 0 0, 25 has 3 0 0 1 1, 28 has 0 0 2 2 1.
        self.assertEqual(on(5, 7, [9, 8, 7, 6, 5], []), [1, 25])
        self.assertEqual(on(5, 7, [9, 8, 7, 6, 5], [0, 4]), [1, 28])
        # 8 has 0 0 0 10 0, 7 has 4 2 4 0 0, 9 has 5 0 0 5 0, 12 has 0 0 4 6 0.
        self.assertEqual(on(10, 8, [174, 91, 156, 200, 72], [4, 0]), [3, 7, 9, 12])

    def test_six_parties(self):
        self.assertEqual(on(10, 10, [135, 119, 19, 51, 105, 60], []), [4, 49, 26, 3, 41])
        # 39 has 1 2 3 0 0 4, 36 has 0 0 4 0 0 6, 14 has 0 2 5 3 0 0, 40 has 0 0 0 4 0 6, 35 has 1 2 0 0 0 7.
        self.assertEqual(on(10, 39, [54, 83, 164, 124, 4, 200], [4, 1, 3, 0]), [4, 36, 14, 40, 35])

    def test_from_every_set_of_many_houses(self):
        for seats, hates in HOUSES:
            for m in (1, 2, 3, 7, 10):
                lefts = leavings(m, seats, hates)
                for s in sets_of(seats):
                    with self.subTest(m=m, s=s, seats=seats, hates=hates):
                        way = way_of(s, lefts)
                        self.assertEqual(on(m, s, seats, hates), [len(way)] + way)

    def test_from_every_set_of_every_small_house_of_three(self):
        for seats in itertools.product(range(1, 6), repeat=3):
            for m, hates in itertools.product((1, 3, 4), ([], [2, 1])):
                lefts = leavings(m, seats, hates)
                for s in sets_of(seats):
                    with self.subTest(m=m, s=s, seats=seats, hates=hates):
                        way = way_of(s, lefts)
                        self.assertEqual(on(m, s, list(seats), hates), [len(way)] + way)

    def test_from_every_set_of_houses_with_long_ways(self):
        for m, start, seats, hates in LONG_WAYS:
            lefts = leavings(m, seats, hates)
            self.assertGreaterEqual(on(m, start, seats, hates)[0], 3)
            for s in sets_of(seats):
                with self.subTest(m=m, s=s, seats=seats, hates=hates):
                    way = way_of(s, lefts)
                    self.assertEqual(on(m, s, seats, hates), [len(way)] + way)


class Edges(unittest.TestCase):
    def test_one_party(self):
        self.assertEqual(on(1, 1, [1], []), [0])
        self.assertEqual(on(10, 1, [200], []), [0])

    def test_as_many_seats(self):
        # 3 has 2 1 0, 5 has 2 0 1, 6 has 0 2 1, 7 has 1 1 1.
        self.assertEqual(on(3, 3, [9, 9, 9], []), [1, 6])
        self.assertEqual(on(3, 4, [9, 9, 9], []), [2, 3, 6])
        for s in (5, 6, 7):
            self.assertEqual(on(3, s, [9, 9, 9], []), [0])
        # Together they have 2 and 1, alone neither may govern.
        self.assertEqual(on(3, 3, [7, 7], []), [0])
        self.assertEqual(on(3, 1, [7, 7], []), [0])

    def test_a_party_that_gets_no_office(self):
        # 3 has 1 1 0; in 5 and 6 the greater party has 2, but party 2 none, as before.
        self.assertEqual(on(2, 3, [45, 40, 10], []), [0])
        self.assertEqual(on(2, 4, [45, 40, 10], []), [1, 3])
        # 3 has 4 0 already, so the first has no more alone.
        self.assertEqual(on(4, 3, [200, 1], []), [0])
        self.assertEqual(on(4, 2, [200, 1], []), [1, 1])

    def test_one_office(self):
        self.assertEqual(on(1, 2, [7, 6], []), [1, 1])
        self.assertEqual(on(1, 3, [7, 6], []), [0])
        for s in sets_of([40, 30, 20]):
            # Each set that may govern has a second party, who gets none.
            self.assertEqual(on(1, s, [40, 30, 20], []), [0])

    def test_somebody_outside_the_set_had_none(self):
        # Party 1 isn't in 5, which has 4 0 1, and has 3 of the 5 in 6.
        self.assertEqual(on(5, 5, [40, 30, 20], []), [1, 6])

    def test_somebody_of_the_set_had_none(self):
        # 7 has 0 2 2, 3 has 1 3 0, 5 has 1 0 3.
        self.assertEqual(deal(4, 7, [1, 3, 3], []), [1, 0, 2, 2, 0, 0, 0])
        self.assertEqual(on(4, 7, [1, 3, 3], []), [1, 3])

    def test_just_half_does_not_come(self):
        # The first alone has just half, and would have all 3 offices.
        self.assertEqual(on(3, 3, [50, 30, 20], []), [0])
        self.assertEqual(on(3, 4, [50, 30, 20], []), [1, 3])
        self.assertEqual(on(3, 3, [50, 29, 20], []), [1, 1])
        self.assertEqual(on(3, 4, [50, 29, 20], []), [1, 1])

    def test_hates_either_way_about(self):
        for hates in ([0, 2], [2, 0], [0, 2, 2, 0], [2, 0, 2, 0]):
            with self.subTest(hates=hates):
                self.assertEqual(on(5, 3, [40, 30, 20], hates), [1, 6])
                self.assertEqual(on(5, 4, [40, 30, 20], hates), [2, 3, 6])

    def test_neighbours_in_the_list_that_are_no_two(self):
        # 1 and 2 don't hate each other, though their numbers lie side by side.
        self.assertEqual(on(2, 8, [1, 9, 9, 1], [0, 1, 2, 3]), [1, 6])

    def test_from_a_set_that_may_not_govern(self):
        # Too few seats.
        self.assertEqual(on(5, 1, [40, 30, 20], []), [1, 6])
        self.assertEqual(on(5, 2, [40, 30, 20], []), [2, 5, 6])
        self.assertEqual(on(5, 4, [40, 30, 20], []), [3, 3, 5, 6])
        # Two who hate each other.
        self.assertEqual(on(5, 7, [40, 30, 20], [1, 2]), [0])
        self.assertEqual(on(5, 7, [40, 30, 20], [0, 2]), [1, 6])
        self.assertEqual(on(5, 5, [40, 30, 20], [0, 2]), [1, 6])

    def test_a_set_that_may_not_govern_never_comes(self):
        # Without the hates 3 is left for 5 and 6.
        self.assertEqual(on(5, 3, [40, 30, 20], [0, 2]), [1, 6])
        self.assertEqual(on(5, 3, [40, 30, 20], [0, 2, 1, 2]), [0])

    def test_no_set_may_govern(self):
        for s in (1, 2, 3):
            self.assertEqual(on(4, s, [7, 7], [0, 1]), [0])
        for s in sets_of([200] * 6):
            self.assertEqual(on(10, s, [200] * 6, hates_of_40()), [0])

    def test_the_first_comes_and_not_the_best_or_the_last(self):
        # 3 is left for 5 and 6, and 6 would end the way at once.
        self.assertEqual(leave(5, 3, [40, 30, 20], []), [2, 5, 6])
        self.assertEqual(on(5, 3, [40, 30, 20], []), [2, 5, 6])
        # 7 is left for 25 and 28, and only the first comes.
        self.assertEqual(leave(5, 7, [9, 8, 7, 6, 5], []), [2, 25, 28])
        self.assertEqual(on(5, 7, [9, 8, 7, 6, 5], []), [1, 25])

    def test_a_lesser_set_comes_behind_a_greater(self):
        self.assertEqual(on(10, 7, [106, 70, 200, 123], [3, 0, 3, 1]), [3, 12, 5, 6])

    def test_the_greatest_house(self):
        self.assertEqual(on(10, 3, [200, 200, 100], [0, 1] * 20), [1, 5])
        self.assertEqual(on(10, 4, [200, 125, 103, 25], [3, 2] * 20), [3, 3, 5, 6])
        self.assertEqual(on(10, 26, [35, 200, 56, 167, 86, 66], [5, 4, 0, 5] * 10), [4, 10, 19, 38, 28])
        self.assertEqual(on(10, 1, [200] * 6, [0, 1] * 20), [1, 30])
        self.assertEqual(on(10, 60, [200] * 6, [0, 1] * 20), [0])
        self.assertEqual(on(10, 63, [200] * 6, [0, 1] * 20), [1, 53])


class GoingRound(unittest.TestCase):
    """No house goes round, so who is left for whom is made up here."""

    def on_made_up(self, s, lefts):
        asked = []

        def sets_left_for(m, left, seats, hates):
            asked.append(left)
            self.assertLess(len(asked), 20, "the way does not end")
            return list(lefts[left])

        with mock.patch("leavefor.offices.sets_left_for", sets_left_for):
            return on(5, s, [40, 30, 20], [])

    def test_back_to_where_it_began(self):
        self.assertEqual(self.on_made_up(3, {3: [5], 5: [3]}), [2, 5, 3])
        self.assertEqual(self.on_made_up(3, {3: [5], 5: [6], 6: [3]}), [3, 5, 6, 3])

    def test_back_to_one_on_the_way(self):
        self.assertEqual(self.on_made_up(1, {1: [3], 3: [5], 5: [6], 6: [3]}), [4, 3, 5, 6, 3])

    def test_the_first_counts_though_another_would_go_on(self):
        self.assertEqual(self.on_made_up(3, {3: [5], 5: [3, 6], 6: []}), [2, 5, 3])

    def test_another_that_was_there_does_not_end_it(self):
        self.assertEqual(self.on_made_up(5, {5: [3, 6], 3: [2, 5], 2: [], 6: []}), [2, 3, 2])


class Refusals(unittest.TestCase):
    def test_wrong_houses(self):
        for why, m, seats, hates in WRONG_HOUSES:
            with self.subTest(why):
                self.assertEqual(on(m, 1, seats, hates), [-22])

    def test_nobody(self):
        self.assertEqual(on(1, 0, [3, 2], []), [-2])
        self.assertEqual(on(1, 0, [3], []), [-2])

    def test_somebody_who_is_none(self):
        for s in (4, 5, 6, 7, 8, 2 ** 31, TOP):
            with self.subTest(s=s):
                self.assertEqual(on(1, s, [3, 2], []), [-2])
        self.assertEqual(on(1, 2, [3], []), [-2])
        self.assertEqual(on(1, 64, [3] * 6, []), [-2])
        self.assertEqual(on(1, 65, [3] * 6, []), [-2])

    def test_the_greatest_set_that_there_is(self):
        for parties in range(1, 7):
            self.assertGreaterEqual(on(1, 2 ** parties - 1, [3] * parties, [])[0], 0)
            self.assertEqual(on(1, 2 ** parties, [3] * parties, []), [-2])

    def test_a_set_that_is_none_where_no_set_may_govern(self):
        self.assertEqual(on(1, 0, [7, 7], [0, 1]), [-2])
        self.assertEqual(on(1, 4, [7, 7], [0, 1]), [-2])

    def test_a_wrong_house_comes_before_a_wrong_set(self):
        for why, m, seats, hates in WRONG_HOUSES:
            for s in (0, 2 ** len(seats), TOP):
                with self.subTest(why, s=s):
                    self.assertEqual(on(m, s, seats, hates), [-22])


class WhatHolds(unittest.TestCase):
    def test_each_is_the_first_that_leave_finds(self):
        houses = [(4, seats, hates) for seats, hates in HOUSES]
        houses += [(m, seats, hates) for m, s, seats, hates in LONG_WAYS]
        for m, seats, hates in houses:
            for s in sets_of(seats):
                count, *way = on(m, s, seats, hates)
                self.assertEqual(count, len(way), (m, s, seats, hates))
                for one, other in zip([s] + way, way):
                    self.assertEqual(leave(m, one, seats, hates)[1], other, (m, s, seats, hates))
                    self.assertTrue(governs(other, seats, hates), (m, s, seats, hates))

    def test_it_ends_at_one_that_is_left_for_none(self):
        # Who leaves lowers the last quotient that still gets an office, so no way goes round.
        for seats, hates in HOUSES:
            for m in range(1, 11):
                ends = stable(m, seats, hates)[1:]
                for s in sets_of(seats):
                    way = [s] + on(m, s, seats, hates)[1:]
                    self.assertEqual(len(set(way)), len(way), (m, s, seats, hates))
                    self.assertEqual(leave(m, way[-1], seats, hates), [0], (m, s, seats, hates))
                    if len(way) > 1:
                        self.assertIn(way[-1], ends, (m, s, seats, hates))

    def test_who_has_more_than_half_alone_goes_nowhere(self):
        for seats in ([1], [3, 2], [2, 3], [51, 30, 20], [1, 1, 200], [9, 1, 2, 3, 1, 1], [1, 1, 1, 1, 1, 6]):
            great = seats.index(max(seats))
            for m in range(1, 11):
                for hates in ([], [0, 1] * 20 if len(seats) > 1 else []):
                    with self.subTest(m=m, seats=seats, hates=hates):
                        self.assertEqual(on(m, 2 ** great, seats, hates), [0])


class TheCall(unittest.TestCase):
    def test_names_of_what_is_handed_in(self):
        self.assertEqual(on(m=3, s=3, seats=[7, 6], hates=[]), [1, 1])

    def test_the_answer_is_a_list_of_whole_numbers(self):
        answers = (
            on(5, 4, [40, 30, 20], []), on(3, 1, [7, 6], []), on(3, 1, [1, 1], [0, 1]),
            on(0, 1, [1], []), on(1, 0, [1], []),
        )
        for answer in answers:
            self.assertIs(type(answer), list)
            self.assertEqual({type(number) for number in answer}, {int})

    def test_what_is_handed_in_is_not_changed(self):
        seats, hates = Untouchable([40, 30, 20]), Untouchable([2, 1])
        for s in range(9):
            on(5, s, seats, hates)
            self.assertEqual((seats, hates), ([40, 30, 20], [2, 1]))
        for why, m, seats, hates in WRONG_HOUSES:
            handed = Untouchable(seats), Untouchable(hates)
            on(m, 1, *handed)
            self.assertEqual(handed, (seats, hates), why)

    def test_nothing_is_kept(self):
        seats, hates = [40, 30, 20], []
        first = on(5, 4, seats, hates)
        self.assertEqual(first, [3, 3, 5, 6])
        first.append(99)
        first[1] = 99
        on(10, 1, [200], [])
        on(0, 0, [], [1])
        self.assertEqual(on(5, 4, seats, hates), [3, 3, 5, 6])
        self.assertEqual(on(5, 4, seats, hates), [3, 3, 5, 6])
        self.assertEqual(on(5, 8, seats, hates), [-2])
        self.assertEqual(on(5, 8, seats, hates), [-2])
        self.assertEqual(on(0, 4, seats, hates), [-22])
        self.assertEqual(on(0, 4, seats, hates), [-22])

    def test_nothing_is_printed(self):
        out, err = io.StringIO(), io.StringIO()
        with contextlib.redirect_stdout(out), contextlib.redirect_stderr(err):
            on(5, 4, [40, 30, 20], [])
            on(5, 0, [40, 30, 20], [])
            on(0, 4, [40, 30, 20], [])
        self.assertEqual(out.getvalue() + err.getvalue(), "")


if __name__ == "__main__":
    unittest.main()
