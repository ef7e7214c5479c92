import contextlib
import io
import itertools
import unittest

from helper import HOUSES, TOP, WRONG_HOUSES, Untouchable, dealt, governs, hates_of_40, members, sets_of
from leavefor.offices import deal


class Ordinary(unittest.TestCase):
    def test_two_of_three_parties(self):
        self.assertEqual(deal(5, 3, [40, 30, 20], []), [1, 3, 2, 0, 0, 0, 0])

    def test_all_of_three_parties(self):
        self.assertEqual(deal(5, 7, [40, 30, 20], []), [1, 2, 2, 1, 0, 0, 0])

    def test_who_is_not_in_the_set_has_none(self):
        self.assertEqual(deal(3, 6, [40, 30, 20], []), [1, 0, 2, 1, 0, 0, 0])

    def test_four_parties(self):
        self.assertEqual(deal(7, 13, [10, 20, 30, 40], []), [1, 1, 0, 3, 3, 0, 0])

    def test_six_parties(self):
        self.assertEqual(deal(8, 63, [53, 24, 23, 11, 7, 2], []), [1, 4, 2, 2, 0, 0, 0])

    def test_a_set_of_the_last_parties(self):
        self.assertEqual(deal(3, 48, [1, 1, 1, 1, 9, 5], []), [1, 0, 0, 0, 0, 2, 1])

    def test_every_set_of_many_houses(self):
        for seats, hates in HOUSES:
            for m, s in itertools.product((1, 2, 3, 7, 10), sets_of(seats)):
                with self.subTest(m=m, s=s, seats=seats, hates=hates):
                    first = 1 if governs(s, seats, hates) else 0
                    self.assertEqual(deal(m, s, seats, hates), [first] + dealt(m, s, seats))

    def test_every_small_house_of_three(self):
        for seats in itertools.product(range(1, 6), repeat=3):
            for m, s in itertools.product((1, 4), sets_of(seats)):
                with self.subTest(m=m, s=s, seats=seats):
                    first = 1 if governs(s, seats, []) else 0
                    self.assertEqual(deal(m, s, list(seats), []), [first] + dealt(m, s, seats))


class Edges(unittest.TestCase):
    def test_one_party(self):
        self.assertEqual(deal(1, 1, [1], []), [1, 1, 0, 0, 0, 0, 0])
        self.assertEqual(deal(10, 1, [200], []), [1, 10, 0, 0, 0, 0, 0])

    def test_as_many_seats_go_to_the_first(self):
        self.assertEqual(deal(4, 7, [10, 10, 10], []), [1, 2, 1, 1, 0, 0, 0])
        self.assertEqual(deal(1, 6, [10, 10, 10], []), [1, 0, 1, 0, 0, 0, 0])

    def test_like_quotients_of_unlike_seats_go_to_the_first(self):
        self.assertEqual(deal(2, 3, [20, 10], []), [1, 2, 0, 0, 0, 0, 0])
        self.assertEqual(deal(2, 3, [10, 20], []), [1, 1, 1, 0, 0, 0, 0])
        self.assertEqual(deal(4, 6, [40, 30, 20], []), [1, 0, 3, 1, 0, 0, 0])

    def test_quotients_that_differ_by_less_than_one(self):
        self.assertEqual(deal(3, 3, [10, 7], []), [1, 2, 1, 0, 0, 0, 0])
        self.assertEqual(deal(4, 3, [10, 7], []), [1, 2, 2, 0, 0, 0, 0])

    def test_a_party_that_gets_no_office(self):
        self.assertEqual(deal(2, 7, [100, 90, 1], []), [1, 1, 1, 0, 0, 0, 0])
        self.assertEqual(deal(10, 3, [1, 200], []), [1, 0, 10, 0, 0, 0, 0])

    def test_one_office(self):
        self.assertEqual(deal(1, 7, [3, 5, 4], []), [1, 0, 1, 0, 0, 0, 0])
        self.assertEqual(deal(1, 5, [3, 5, 4], []), [1, 0, 0, 1, 0, 0, 0])

    def test_just_half_is_not_enough(self):
        self.assertEqual(deal(2, 1, [50, 30, 20], []), [0, 2, 0, 0, 0, 0, 0])
        self.assertEqual(deal(2, 6, [50, 30, 20], []), [0, 0, 1, 1, 0, 0, 0])

    def test_one_seat_about_half(self):
        self.assertEqual(deal(1, 1, [51, 30, 20], []), [1, 1, 0, 0, 0, 0, 0])
        self.assertEqual(deal(1, 6, [51, 30, 20], []), [0, 0, 1, 0, 0, 0, 0])
        self.assertEqual(deal(1, 2, [1, 2], []), [1, 0, 1, 0, 0, 0, 0])

    def test_hates_either_way_about(self):
        for hates in ([0, 1], [1, 0], [0, 1, 1, 0], [1, 2, 1, 0]):
            with self.subTest(hates=hates):
                self.assertEqual(deal(5, 3, [40, 30, 20], hates), [0, 3, 2, 0, 0, 0, 0])

    def test_hates_of_somebody_outside_do_not_matter(self):
        self.assertEqual(deal(5, 3, [40, 30, 20], [2, 0, 1, 2]), [1, 3, 2, 0, 0, 0, 0])

    def test_neighbours_in_the_list_that_are_no_two(self):
        self.assertEqual(deal(2, 6, [1, 9, 9, 1], [0, 1, 2, 3]), [1, 0, 1, 1, 0, 0, 0])

    def test_a_set_that_may_not_govern_is_dealt_out_too(self):
        self.assertEqual(deal(3, 6, [90, 20, 10], []), [0, 0, 2, 1, 0, 0, 0])
        self.assertEqual(deal(3, 7, [90, 20, 10], [1, 2]), [0, 3, 0, 0, 0, 0, 0])

    def test_the_greatest_house(self):
        seats = [200] * 6
        self.assertEqual(deal(10, 63, seats, hates_of_40()), [0, 2, 2, 2, 2, 1, 1])
        self.assertEqual(deal(10, 60, seats, [0, 1] * 20), [1, 0, 0, 3, 3, 2, 2])
        self.assertEqual(deal(10, 60, seats, [0, 1] * 19 + [5, 2]), [0, 0, 0, 3, 3, 2, 2])


class Refusals(unittest.TestCase):
    def test_wrong_houses(self):
        for why, m, seats, hates in WRONG_HOUSES:
            with self.subTest(why):
                self.assertEqual(deal(m, 1, seats, hates), [-22])

    def test_nobody(self):
        self.assertEqual(deal(1, 0, [3, 2], []), [-2])

    def test_somebody_who_is_none(self):
        for s in (4, 5, 7, 64, 2 ** 31, 2 ** 31 + 1, TOP):
            with self.subTest(s=s):
                self.assertEqual(deal(1, s, [3, 2], [0, 1]), [-2])
        self.assertEqual(deal(1, 2, [3], []), [-2])
        self.assertEqual(deal(1, 64, [1] * 6, []), [-2])

    def test_of_both_the_one_told_first(self):
        for why, m, seats, hates in WRONG_HOUSES:
            for s in (0, 2 ** len(seats), TOP):
                with self.subTest(why, s=s):
                    self.assertEqual(deal(m, s, seats, hates), [-22])


class WhatHolds(unittest.TestCase):
    def test_all_offices_are_dealt_out(self):
        for seats, hates in HOUSES:
            for m, s in itertools.product(range(1, 11), sets_of(seats)):
                self.assertEqual(sum(deal(m, s, seats, hates)[1:]), m, (m, s, seats))

    def test_with_fewer_partners_nobody_has_fewer(self):
        for seats, hates in HOUSES:
            for s, fewer in itertools.product(sets_of(seats), repeat=2):
                if fewer & s != fewer:
                    continue
                many, few = deal(7, s, seats, hates)[1:], deal(7, fewer, seats, hates)[1:]
                for party in members(fewer):
                    self.assertGreaterEqual(few[party], many[party], (s, fewer, seats))

    def test_more_than_half_alone_has_all(self):
        self.assertEqual(deal(9, 4, [30, 20, 51], [0, 2, 1, 2]), [1, 0, 0, 9, 0, 0, 0])


class TheCall(unittest.TestCase):
    def test_names_of_what_is_handed_in(self):
        self.assertEqual(deal(m=1, s=1, seats=[2], hates=[]), [1, 1, 0, 0, 0, 0, 0])

    def test_the_answer_is_a_list_of_whole_numbers(self):
        for answer in (deal(3, 3, [2, 1], []), deal(3, 2, [2, 1], []), deal(0, 1, [1], []), deal(1, 0, [1], [])):
            self.assertIs(type(answer), list)
            self.assertEqual({type(number) for number in answer}, {int})

    def test_what_is_handed_in_is_not_changed(self):
        for s in (0, 3, 7, 8):
            seats, hates = Untouchable([40, 30, 20]), Untouchable([2, 0])
            deal(5, s, seats, hates)
            self.assertEqual((seats, hates), ([40, 30, 20], [2, 0]))
        for why, m, seats, hates in WRONG_HOUSES:
            handed = Untouchable(seats), Untouchable(hates)
            deal(m, 1, *handed)
            self.assertEqual(handed, (seats, hates), why)

    def test_nothing_is_kept(self):
        seats, hates = [40, 30, 20], [2, 0]
        first = deal(5, 3, seats, hates)
        first.append(99)
        first[1] = 99
        deal(10, 1, [200], [])
        deal(0, 1, [], [1])
        self.assertEqual(deal(5, 3, seats, hates), [1, 3, 2, 0, 0, 0, 0])
        self.assertEqual(deal(5, 0, seats, hates), [-2])
        self.assertEqual(deal(5, 0, seats, hates), [-2])

    def test_nothing_is_printed(self):
        out, err = io.StringIO(), io.StringIO()
        with contextlib.redirect_stdout(out), contextlib.redirect_stderr(err):
            deal(5, 3, [40, 30, 20], [2, 0])
            deal(5, 0, [40, 30, 20], [2, 0])
        self.assertEqual(out.getvalue() + err.getvalue(), "")


if __name__ == "__main__":
    unittest.main()
