import contextlib
import io
import itertools
import unittest

from helper import HOUSES, TOP, WRONG_HOUSES, Untouchable, dealt, governs, hates_of_40, members, sets_of
from leavefor.offices import best, deal, mays


def best_of(m, party, seats, hates):
    """The answer of best, by ranking all sets with the party that may govern."""
    ranked = sorted(
        (-dealt(m, s, seats)[party], s)
        for s in sets_of(seats) if party in members(s) and governs(s, seats, hates)
    )
    return [-ranked[0][0], ranked[0][1]] if ranked else [-33]


def bests(m, seats, hates):
    return [best(m, party, seats, hates) for party in range(len(seats))]


class Ordinary(unittest.TestCase):
    def test_two_parties(self):
        # Together they have 2 and 1; the greater one alone has 3.
        self.assertEqual(bests(3, [7, 6], []), [[3, 1], [1, 3]])
        self.assertEqual(bests(3, [6, 7], []), [[1, 3], [3, 2]])

    def test_three_parties(self):
        # 3 has 3 2 0, 5 has 4 0 1, 6 has 0 3 2, 7 has 2 2 1.
        self.assertEqual(bests(5, [40, 30, 20], []), [[4, 5], [3, 6], [2, 6]])

    def test_three_parties_with_a_hate(self):
        self.assertEqual(bests(5, [40, 30, 20], [2, 0]), [[3, 3], [3, 6], [2, 6]])
        self.assertEqual(bests(5, [40, 30, 20], [1, 2]), [[4, 5], [2, 3], [1, 5]])

    def test_four_parties(self):
        # 7 has 1 1 2 0, 10 has 0 1 0 3, 12 has 0 0 2 2.
        self.assertEqual(bests(4, [10, 20, 30, 40], []), [[1, 7], [1, 7], [2, 7], [3, 10]])

    def test_five_parties(self):
        # 7 has 2 2 1 0 0, 13 has 2 0 2 1 0, 19 has 2 2 0 0 1, 25 has 3 0 0 1 1, 26 has 0 2 0 2 1.
        self.assertEqual(bests(5, [9, 8, 7, 6, 5], []), [[3, 25], [2, 7], [2, 13], [2, 26], [1, 19]])
        self.assertEqual(bests(5, [9, 8, 7, 6, 5], [0, 4, 1, 2]), [[2, 11], [2, 11], [2, 13], [2, 26], [1, 26]])

    def test_six_parties(self):
        # 5 has 2 0 4 0 0 0, 6 has 0 1 5 0 0 0, 51 has 2 1 0 0 0 3.
        seats, hates = [12, 11, 30, 5, 5, 17], [2, 5, 1, 3]
        self.assertEqual(bests(6, seats, hates), [[2, 5], [1, 6], [5, 6], [0, 13], [0, 21], [3, 51]])

    def test_every_party_of_many_houses(self):
        for seats, hates in HOUSES:
            for m, party in itertools.product((1, 2, 3, 7, 10), range(len(seats))):
                with self.subTest(m=m, party=party, seats=seats, hates=hates):
                    self.assertEqual(best(m, party, seats, hates), best_of(m, party, seats, hates))

    def test_every_party_of_every_small_house_of_three(self):
        for seats in itertools.product(range(1, 6), repeat=3):
            for m, hates, party in itertools.product((1, 3, 4), ([], [2, 1], [0, 1, 0, 2]), range(3)):
                with self.subTest(m=m, party=party, seats=seats, hates=hates):
                    self.assertEqual(best(m, party, list(seats), hates), best_of(m, party, seats, hates))


class Edges(unittest.TestCase):
    def test_one_party(self):
        self.assertEqual(best(1, 0, [1], []), [1, 1])
        self.assertEqual(best(10, 0, [200], []), [10, 1])

    def test_as_many_seats(self):
        self.assertEqual(bests(3, [7, 7], []), [[2, 3], [1, 3]])
        # 3 has 2 1 0, 5 has 2 0 1, 6 has 0 2 1, 7 has 1 1 1.
        self.assertEqual(bests(3, [9, 9, 9], []), [[2, 3], [2, 6], [1, 5]])

    def test_of_sets_with_as_many_the_least(self):
        # Party 2 has one office in 5, 6 and 7; party 0 two in 3 and 5.
        self.assertEqual(best(3, 2, [9, 9, 9], []), [1, 5])
        self.assertEqual(best(3, 0, [9, 9, 9], []), [2, 3])
        # A hate takes the least away, and the next comes.
        self.assertEqual(best(3, 2, [9, 9, 9], [0, 2]), [1, 6])
        self.assertEqual(best(3, 0, [9, 9, 9], [0, 1]), [2, 5])

    def test_not_the_least_set_but_the_most_offices(self):
        # Party 1 has two offices in 3, and three in 6.
        self.assertEqual(best(5, 1, [40, 30, 20], []), [3, 6])

    def test_a_party_that_gets_no_office(self):
        # 5, 6 and 7 may govern with party 2, and it has none in each.
        self.assertEqual(bests(2, [45, 40, 10], []), [[2, 5], [2, 6], [0, 5]])
        self.assertEqual(best(2, 2, [45, 40, 10], [0, 2]), [0, 6])
        self.assertEqual(bests(4, [200, 1], []), [[4, 1], [0, 3]])

    def test_one_office(self):
        self.assertEqual(bests(1, [7, 6], []), [[1, 1], [0, 3]])
        self.assertEqual(bests(1, [40, 30, 20], []), [[1, 3], [1, 6], [0, 5]])

    def test_just_half_is_not_enough(self):
        # The first alone has just half, and would have all 3 offices.
        self.assertEqual(bests(3, [50, 30, 20], []), [[2, 3], [1, 3], [1, 5]])
        self.assertEqual(bests(3, [50, 29, 20], []), [[3, 1], [1, 3], [1, 5]])
        # 6 had just half above, and party 1 has two of the three in it.
        self.assertEqual(best(3, 1, [50, 31, 20], []), [2, 6])

    def test_hates_either_way_about(self):
        for hates in ([1, 2], [2, 1], [1, 2, 2, 1], [2, 1, 2, 1]):
            with self.subTest(hates=hates):
                self.assertEqual(bests(5, [40, 30, 20], hates), [[4, 5], [2, 3], [1, 5]])

    def test_its_own_hate_takes_its_best_away(self):
        # Party 3 has three offices in 10 and 11, with party 1, and two in 12.
        self.assertEqual(best(4, 3, [10, 20, 30, 40], []), [3, 10])
        self.assertEqual(best(4, 3, [10, 20, 30, 40], [1, 3]), [2, 12])

    def test_a_hate_of_others_takes_its_best_away(self):
        # Party 0 has one office in 7, with 1 and 2, and none in 11 or 13.
        self.assertEqual(best(4, 0, [10, 20, 30, 40], []), [1, 7])
        self.assertEqual(best(4, 0, [10, 20, 30, 40], [1, 2]), [0, 11])

    def test_neighbours_in_the_list_that_are_no_two(self):
        # 1 and 2 don't hate each other, though their numbers lie side by side.
        self.assertEqual(bests(2, [1, 9, 9, 1], [0, 1, 2, 3]), [[-33], [1, 6], [1, 6], [-33]])

    def test_the_greatest_house(self):
        hates = [0, 1] * 20
        self.assertEqual(bests(10, [200, 200, 100], hates), [[7, 5], [7, 6], [3, 5]])
        # 29 has 3 0 3 2 2 0, 57 has 3 0 0 3 2 2.
        self.assertEqual(bests(10, [200] * 6, hates), [[3, 29], [3, 30], [3, 29], [3, 57], [2, 29], [2, 45]])
        seats = [200, 150, 120, 100, 80, 60]
        self.assertEqual(bests(10, seats, hates), [[6, 25], [4, 14], [4, 60], [3, 14], [2, 21], [1, 37]])
        self.assertEqual(bests(10, [200] * 6, hates_of_40()), [[-33]] * 6)


class NeverGoverns(unittest.TestCase):
    def test_who_hates_all_others(self):
        self.assertEqual(bests(5, [40, 30, 20], [0, 1, 2, 0]), [[-33], [3, 6], [2, 6]])
        self.assertEqual(bests(5, [40, 30, 20], [2, 1, 0, 2]), [[3, 3], [2, 3], [-33]])

    def test_who_hates_all_others_but_needs_none(self):
        self.assertEqual(bests(5, [51, 30, 20], [0, 1, 2, 0]), [[5, 1], [-33], [-33]])

    def test_who_hates_all_who_are_needed(self):
        # Without 3 and 1 together, or 0 and 2, none but 2 and 3 have more than half.
        self.assertEqual(bests(4, [10, 20, 30, 40], [3, 1, 0, 2]), [[-33], [-33], [2, 12], [2, 12]])

    def test_no_set_may_govern(self):
        self.assertEqual(bests(4, [7, 7], [0, 1]), [[-33], [-33]])
        self.assertEqual(bests(1, [9, 9, 9], [0, 1, 0, 2, 2, 1]), [[-33]] * 3)

    def test_just_half_alone_without_partners(self):
        self.assertEqual(best(3, 0, [50, 30, 20], [0, 1, 0, 2]), [-33])

    def test_without_offices_is_not_without_a_set(self):
        self.assertEqual(best(1, 1, [200, 1], []), [0, 3])
        self.assertEqual(best(1, 1, [200, 1], [1, 0]), [-33])


class Refusals(unittest.TestCase):
    def test_wrong_houses(self):
        for why, m, seats, hates in WRONG_HOUSES:
            with self.subTest(why):
                self.assertEqual(best(m, 0, seats, hates), [-22])

    def test_no_such_party(self):
        for parties in range(1, 7):
            for i in (parties, parties + 1, 6, 7, 31, 32, 2 ** 31, TOP):
                with self.subTest(parties=parties, i=i):
                    self.assertEqual(best(1, i, [3] * parties, []), [-2])

    def test_the_last_party_that_there_is(self):
        for parties in range(1, 7):
            self.assertGreaterEqual(best(1, parties - 1, [3] * parties, [])[0], 0)

    def test_no_such_party_where_no_set_may_govern(self):
        self.assertEqual(best(1, 2, [7, 7], [0, 1]), [-2])
        self.assertEqual(best(1, TOP, [7, 7], [0, 1]), [-2])

    def test_a_wrong_house_comes_before_a_wrong_party(self):
        for why, m, seats, hates in WRONG_HOUSES:
            for i in (len(seats), 10, TOP):
                with self.subTest(why, i=i):
                    self.assertEqual(best(m, i, seats, hates), [-22])

    def test_a_wrong_house_comes_before_one_without_a_set(self):
        self.assertEqual(best(0, 0, [7, 7], [0, 1]), [-22])
        self.assertEqual(best(11, 0, [7, 7], [0, 1]), [-22])
        self.assertEqual(best(1, 0, [7, 7], [0, 1, 0]), [-22])


class WhatHolds(unittest.TestCase):
    def test_it_is_the_most_in_the_sets_of_mays_and_the_least_of_these(self):
        for seats, hates in HOUSES:
            for m, party in itertools.product((1, 4, 10), range(len(seats))):
                sets = [s for s in mays(m, seats, hates)[1:] if party in members(s)]
                counts = [deal(m, s, seats, hates)[1 + party] for s in sets]
                expected = [max(counts), sets[counts.index(max(counts))]] if sets else [-33]
                self.assertEqual(best(m, party, seats, hates), expected, (m, party, seats, hates))


class TheCall(unittest.TestCase):
    def test_names_of_what_is_handed_in(self):
        self.assertEqual(best(m=3, i=0, seats=[7, 6], hates=[]), [3, 1])

    def test_the_answer_is_a_list_of_whole_numbers(self):
        answers = (
            best(5, 0, [40, 30, 20], []), best(1, 1, [7, 6], []), best(3, 1, [1, 1], [0, 1]),
            best(0, 0, [1], []), best(1, 1, [1], []),
        )
        for answer in answers:
            self.assertIs(type(answer), list)
            self.assertEqual({type(number) for number in answer}, {int})

    def test_what_is_handed_in_is_not_changed(self):
        for kept in ([], [2, 1], [0, 1, 0, 2]):
            seats, hates = Untouchable([40, 30, 20]), Untouchable(kept)
            for i in range(5):
                best(5, i, seats, hates)
                self.assertEqual((seats, hates), ([40, 30, 20], kept))
        for why, m, seats, hates in WRONG_HOUSES:
            handed = Untouchable(seats), Untouchable(hates)
            best(m, 0, *handed)
            self.assertEqual(handed, (seats, hates), why)

    def test_nothing_is_kept(self):
        seats, hates = [40, 30, 20], [0, 2]
        first = best(5, 1, seats, hates)
        self.assertEqual(first, [3, 6])
        first.append(99)
        first[1] = 99
        best(10, 0, [200], [])
        best(0, 0, [], [1])
        for answer in range(2):
            self.assertEqual(best(5, 1, seats, hates), [3, 6])
            self.assertEqual(best(5, 2, seats, [0, 2, 1, 2]), [-33])
            self.assertEqual(best(5, 3, seats, hates), [-2])
            self.assertEqual(best(0, 1, seats, hates), [-22])

    def test_nothing_is_printed(self):
        out, err = io.StringIO(), io.StringIO()
        with contextlib.redirect_stdout(out), contextlib.redirect_stderr(err):
            best(5, 1, [40, 30, 20], [])
            best(5, 3, [40, 30, 20], [])
            best(0, 1, [40, 30, 20], [])
            best(5, 1, [40, 30, 20], [0, 1, 1, 2])
        self.assertEqual(out.getvalue() + err.getvalue(), "")


if __name__ == "__main__":
    unittest.main()
