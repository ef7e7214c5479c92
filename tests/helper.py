"""What the tests share: houses, wrong houses, and a second way to reckon."""

from fractions import Fraction

TOP = 4294967295


def hates_of_40():
    """All fifteen twos of six parties, and five of them the other way about."""
    twos = [(a, b) for a in range(6) for b in range(a + 1, 6)]
    twos += [(b, a) for a, b in twos[:5]]
    return [party for two in twos for party in two]


# Each is (what is wrong, m, seats, hates); all else in it is right.
WRONG_HOUSES = [
    ("no office", 0, [3, 2], []),
    ("11 offices", 11, [3, 2], []),
    ("offices beyond all", TOP, [3, 2], []),
    ("no party", 1, [], []),
    ("7 parties", 1, [1] * 7, []),
    ("10 parties", 1, [1] * 10, []),
    ("first without seats", 1, [0, 2], []),
    ("last without seats", 1, [3, 0], []),
    ("first with 201 seats", 1, [201, 2], []),
    ("last with 201 seats", 1, [3, 201], []),
    ("seats beyond all", 1, [3, TOP], []),
    ("one number in hates", 1, [3, 2], [0]),
    ("three numbers in hates", 1, [3, 2, 1], [0, 1, 2]),
    ("41 numbers in hates", 1, [3, 2], [0, 1] * 20 + [0]),
    ("42 numbers in hates", 1, [3, 2], [0, 1] * 21),
    ("44 numbers in hates", 1, [3, 2], [0, 1] * 22),
    ("party 0 hates itself", 1, [3, 2], [0, 0]),
    ("the only party hates itself", 1, [3], [0, 0]),
    ("a later two is one", 1, [3, 2], [0, 1, 1, 1]),
    ("the first of a two isn't there", 1, [3, 2], [2, 0]),
    ("the second of a two isn't there", 1, [3, 2], [0, 2]),
    ("neither of a two is there", 1, [3, 2], [2, 3]),
    ("a later one isn't there", 1, [3, 2], [0, 1, 1, 5]),
    ("hates beyond all", 1, [3, 2], [0, TOP]),
    ("two wrongs", 0, [0], [0]),
]

# Each is (seats, hates), of one to six parties.
HOUSES = [
    ([1], []),
    ([200], []),
    ([7, 7], []),
    ([7, 6], [0, 1]),
    ([50, 30, 20], []),
    ([40, 30, 20], [2, 0]),
    ([33, 33, 33], [1, 2]),
    ([200, 1, 1], []),
    ([10, 20, 30, 40], [3, 0]),
    ([1, 2, 4, 8], [0, 1, 2, 3]),
    ([25, 25, 25, 25], []),
    ([9, 8, 7, 6, 5], [0, 4, 4, 0, 1, 2]),
    ([100, 1, 1, 1, 100], [4, 0]),
    ([200, 199, 198, 197, 196, 195], []),
    ([12, 11, 30, 5, 5, 17], [2, 5, 1, 3]),
    ([200, 200, 200, 200, 200, 200], [0, 1] * 20),
    ([3, 3, 2, 2, 1, 1], hates_of_40()),
]


class Untouchable(list):
    """A list that may be read, but fails on the spot if it is to be changed."""

    def refuse(self, *rest, **named):
        raise AssertionError("what was handed in was to be changed")

    __setitem__ = __delitem__ = __iadd__ = __imul__ = refuse
    append = clear = extend = insert = pop = remove = reverse = sort = refuse


def sets_of(seats):
    return range(1, 2 ** len(seats))


def members(s):
    return [party for party in range(6) if s & 2 ** party]


def governs(s, seats, hates):
    """Whether s may govern, reckoned with fractions and pairs of members."""
    held = Fraction(sum(seats[party] for party in members(s)), sum(seats))
    twos = {frozenset(hates[k:k + 2]) for k in range(0, len(hates), 2)}
    return held > Fraction(1, 2) and not any(two <= set(members(s)) for two in twos)


def dealt(m, s, seats):
    """The offices in s, by ranking all quotients at once."""
    quotients = [
        (-Fraction(seats[party], turn), party)
        for party in members(s) for turn in range(1, m + 1)
    ]
    winners = [party for quotient, party in sorted(quotients)[:m]]
    return [winners.count(party) for party in range(6)]


def leavings(m, seats, hates):
    """Of every set those that it is left for, rising, reckoned for the house at once."""
    offices = {s: dealt(m, s, seats) for s in sets_of(seats)}
    governing = [s for s in sets_of(seats) if governs(s, seats, hates)]
    return {
        s: [
            other for other in governing
            if min(offices[other][party] - offices[s][party] for party in members(other)) > 0
        ]
        for s in sets_of(seats)
    }
