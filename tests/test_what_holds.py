"""What holds over the whole program, a to e, by its calls alone."""

import inspect
import itertools
import unittest

import leavefor.offices
from helper import HOUSES, Untouchable, members, sets_of
from leavefor.offices import best, deal, leave, mays, on, stable


def made_houses():
    """Houses of one to six parties, spread out by plain reckoning, with none to three hates each."""
    houses = []
    for k, parties in itertools.product(range(12), range(1, 7)):
        widest = (5, 30, 200)[k % 3]
        seats = [(k * 37 + party * (53 + k) + party * party * 11) % widest + 1 for party in range(parties)]
        twos = list(itertools.combinations(range(parties), 2))
        chosen = [twos[(k * 7 + turn * 5) % len(twos)] for turn in range(k % 4)] if twos else []
        houses.append((k % 10 + 1, seats, [party for two in chosen for party in two[::(-1) ** k]]))
    return houses


def great_houses():
    """Houses in which each party in turn has more than half of all seats alone."""
    houses = []
    for parties in range(1, 7):
        for great in range(parties):
            seats = [party + 1 for party in range(parties)]
            seats[great] = sum(seats) - seats[great] + 1
            others = [party for party in range(parties) if party != great]
            hated = [number for other in others for number in (other, great)]
            houses.extend((m, great, seats, hates) for m in (1, 4, 10) for hates in ([], hated))
    return houses


MADE_HOUSES = made_houses() + [(m, seats, hates) for m in (1, 5, 10) for seats, hates in HOUSES]


class WhatHolds(unittest.TestCase):
    def test_a_all_offices_are_dealt_out(self):
        for m, seats, hates in MADE_HOUSES:
            for s in sets_of(seats):
                offices = deal(m, s, seats, hates)[1:]
                self.assertEqual(sum(offices), m, (m, s, seats))
                self.assertEqual(sum(offices[party] for party in members(s)), m, (m, s, seats))

    def test_b_with_fewer_partners_nobody_has_fewer(self):
        for m, seats, hates in MADE_HOUSES:
            offices = {s: deal(m, s, seats, hates)[1:] for s in sets_of(seats)}
            for s, fewer in itertools.product(offices, repeat=2):
                if s & fewer == fewer:
                    for party in members(fewer):
                        self.assertGreaterEqual(offices[fewer][party], offices[s][party], (m, s, fewer, seats))

    def test_c_any_two_that_may_govern_have_somebody_in_common(self):
        for m, seats, hates in MADE_HOUSES:
            for one, other in itertools.combinations(mays(m, seats, hates)[1:], 2):
                self.assertNotEqual(one & other, 0, (m, seats, hates))

    def test_c_of_two_one_at_the_most_is_left_for_the_other(self):
        for m, seats, hates in MADE_HOUSES:
            lefts = {s: leave(m, s, seats, hates)[1:] for s in sets_of(seats)}
            for one, other in itertools.combinations(lefts, 2):
                both = other in lefts[one] and one in lefts[other]
                self.assertFalse(both, (m, one, other, seats, hates))

    def test_d_who_has_more_than_half_alone_has_all_and_leaves_for_none(self):
        for m, great, seats, hates in great_houses():
            with self.subTest(m=m, great=great, seats=seats, hates=hates):
                alone = 2 ** great
                all_offices = [m if party == great else 0 for party in range(6)]
                self.assertEqual(deal(m, alone, seats, hates), [1] + all_offices)
                self.assertEqual(leave(m, alone, seats, hates), [0])
                self.assertEqual(on(m, alone, seats, hates), [0])
                self.assertIn(alone, stable(m, seats, hates)[1:])
                self.assertEqual(best(m, great, seats, hates), [m, alone])

    def test_e_no_set_that_may_govern_gives_a_party_more_than_its_best(self):
        for m, seats, hates in MADE_HOUSES:
            sets = mays(m, seats, hates)[1:]
            for party in range(len(seats)):
                answer = best(m, party, seats, hates)
                having = [s for s in sets if party in members(s)]
                if answer == [-33]:
                    self.assertEqual(having, [], (m, party, seats, hates))
                    continue
                most, least = answer
                self.assertIn(least, having, (m, party, seats, hates))
                for s in sets:
                    self.assertLessEqual(deal(m, s, seats, hates)[1 + party], most, (m, party, s, seats, hates))


class TheHouses(unittest.TestCase):
    """That the houses above are of all the kinds that they are to be of."""

    def test_they_are_of_one_to_six_parties_with_hates_and_without(self):
        kinds = {(len(seats), hates != []) for m, seats, hates in made_houses()}
        self.assertEqual(kinds, set(itertools.product(range(1, 7), (False, True))) - {(1, True)})

    def test_in_some_a_set_is_left_and_in_some_a_party_never_governs(self):
        houses = made_houses()
        left = [mays(*house)[0] > stable(*house)[0] for house in houses]
        never = [best(m, 0, seats, hates) == [-33] for m, seats, hates in houses]
        for found in (left, never):
            self.assertEqual({True, False}, set(found))


class TheInterface(unittest.TestCase):
    def test_names_and_arguments(self):
        expected = {
            "deal": ["m", "s", "seats", "hates"],
            "mays": ["m", "seats", "hates"],
            "leave": ["m", "s", "seats", "hates"],
            "stable": ["m", "seats", "hates"],
            "on": ["m", "s", "seats", "hates"],
            "best": ["m", "i", "seats", "hates"],
        }
        for name, arguments in expected.items():
            signature = inspect.signature(getattr(leavefor.offices, name))
            self.assertEqual(list(signature.parameters), arguments, name)

    def test_any_order_of_calls_answers_alike_and_changes_nothing(self):
        seats, hates = Untouchable([40, 30, 20, 15]), Untouchable([2, 0, 1, 3])
        calls = [
            lambda: deal(5, 3, seats, hates),
            lambda: mays(5, seats, hates),
            lambda: leave(5, 3, seats, hates),
            lambda: stable(5, seats, hates),
            lambda: on(5, 4, seats, hates),
            lambda: best(5, 1, seats, hates),
        ]
        first = [call() for call in calls]
        for order in itertools.permutations(range(len(calls))):
            for k in order:
                answer = calls[k]()
                self.assertEqual(answer, first[k])
                # An answer belongs to whoever asked: changing it must touch no other.
                answer.clear()
        self.assertEqual((seats, hates), ([40, 30, 20, 15], [2, 0, 1, 3]))


if __name__ == "__main__":
    unittest.main()
