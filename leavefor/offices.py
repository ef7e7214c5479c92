"""Which coalitions may govern, how their offices are dealt out, and who would leave whom.

A set of parties is a number in which party i counts 2^i.
"""

MOST_OFFICES = 10
MOST_PARTIES = 6
MOST_SEATS = 200
MOST_HATE_NUMBERS = 40

REFUSED_HOUSE = -22
REFUSED_CHOICE = -2
NEVER_GOVERNS = -33


def offices_fit(m):
    return m >= 1 and m <= MOST_OFFICES


def seats_fit(seats):
    if len(seats) < 1 or len(seats) > MOST_PARTIES:
        return False
    for number in seats:
        if number < 1 or number > MOST_SEATS:
            return False
    return True


def hates_fit(parties, hates):
    if len(hates) % 2 != 0 or len(hates) > MOST_HATE_NUMBERS:
        return False
    for k in range(0, len(hates), 2):
        if hates[k] == hates[k + 1]:
            return False
        if hates[k] >= parties or hates[k + 1] >= parties:
            return False
    return True


def house_fits(m, seats, hates):
    return offices_fit(m) and seats_fit(seats) and hates_fit(len(seats), hates)


def set_fits(s, parties):
    return s >= 1 and s < (1 << parties)


def party_fits(i, parties):
    return i < parties


def is_in(party, s):
    return ((s >> party) & 1) == 1


def members_of(s, parties):
    return [party for party in range(parties) if is_in(party, s)]


def has_most_seats(s, seats):
    held = sum([seats[party] for party in members_of(s, len(seats))])
    # Doubled, because half of an odd sum is no whole number.
    return 2 * held > sum(seats)


def has_hate_within(s, hates):
    for k in range(0, len(hates), 2):
        if is_in(hates[k], s) and is_in(hates[k + 1], s):
            return True
    return False


def may_govern(s, seats, hates):
    return has_most_seats(s, seats) and not has_hate_within(s, hates)


def whose_turn(members, seats, had):
    chosen = members[0]
    for party in members:
        # Multiplied crosswise, because the quotients are no whole numbers.
        # Only a greater one takes over, so of like ones the first party stays.
        if seats[party] * (had[chosen] + 1) > seats[chosen] * (had[party] + 1):
            chosen = party
    return chosen


def offices_in(m, s, seats):
    members = members_of(s, len(seats))
    had = [0] * MOST_PARTIES
    for office in range(m):
        party = whose_turn(members, seats, had)
        had[party] = had[party] + 1
    return had


def deal(m, s, seats, hates):
    """Answer 1 if set s may govern, else 0, and the offices of six parties in it."""
    if not house_fits(m, seats, hates):
        return [REFUSED_HOUSE]
    if not set_fits(s, len(seats)):
        return [REFUSED_CHOICE]
    governs = 1 if may_govern(s, seats, hates) else 0
    return [governs] + offices_in(m, s, seats)


def governing_sets(seats, hates):
    return [s for s in range(1, 1 << len(seats)) if may_govern(s, seats, hates)]


def mays(m, seats, hates):
    """Answer how many sets may govern, and these, rising."""
    if not house_fits(m, seats, hates):
        return [REFUSED_HOUSE]
    sets = governing_sets(seats, hates)
    return [len(sets)] + sets


def all_have_more(members, there, here):
    for party in members:
        if there[party] <= here[party]:
            return False
    return True


def is_left_for(m, s, other, seats):
    # Whoever isn't in s counts 0 offices in it, so for them one office is more already.
    here = offices_in(m, s, seats)
    there = offices_in(m, other, seats)
    return all_have_more(members_of(other, len(seats)), there, here)


def sets_left_for(m, s, seats, hates):
    return [other for other in governing_sets(seats, hates) if is_left_for(m, s, other, seats)]


def leave(m, s, seats, hates):
    """Answer how many sets that may govern set s is left for, and these, rising."""
    if not house_fits(m, seats, hates):
        return [REFUSED_HOUSE]
    if not set_fits(s, len(seats)):
        return [REFUSED_CHOICE]
    sets = sets_left_for(m, s, seats, hates)
    return [len(sets)] + sets


def stable_sets(m, seats, hates):
    return [s for s in governing_sets(seats, hates) if sets_left_for(m, s, seats, hates) == []]


def stable(m, seats, hates):
    """Answer how many sets that may govern are left for none, and these, rising."""
    if not house_fits(m, seats, hates):
        return [REFUSED_HOUSE]
    sets = stable_sets(m, seats, hates)
    return [len(sets)] + sets


def way_on(m, s, seats, hates):
    there = [s]
    sets = sets_left_for(m, s, seats, hates)
    while sets != [] and sets[0] not in there:
        there.append(sets[0])
        sets = sets_left_for(m, sets[0], seats, hates)
    # If a set is still due, it was there already, and comes once more as the last.
    return there[1:] + sets[:1]


def on(m, s, seats, hates):
    """Answer how many sets come behind set s, always the first that is left for, and these in turn."""
    if not house_fits(m, seats, hates):
        return [REFUSED_HOUSE]
    if not set_fits(s, len(seats)):
        return [REFUSED_CHOICE]
    way = way_on(m, s, seats, hates)
    return [len(way)] + way


def best_set_of(sets, m, party, seats):
    chosen = sets[0]
    for s in sets:
        # Only more offices take over, so of like ones the least set stays, as the sets rise.
        if offices_in(m, s, seats)[party] > offices_in(m, chosen, seats)[party]:
            chosen = s
    return chosen


def best(m, i, seats, hates):
    """Answer the most offices that party i has in a set with it that may govern, and the least such set."""
    if not house_fits(m, seats, hates):
        return [REFUSED_HOUSE]
    if not party_fits(i, len(seats)):
        return [REFUSED_CHOICE]
    sets = [s for s in governing_sets(seats, hates) if is_in(i, s)]
    if sets == []:
        return [NEVER_GOVERNS]
    chosen = best_set_of(sets, m, i, seats)
    return [offices_in(m, chosen, seats)[i], chosen]
