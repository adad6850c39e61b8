"""Who chooses when and who takes what, as parties that govern together choose offices by turns."""

MOST_OFFICES = 5
MOST_PARTIES = 4
MOST_SEATS = 200
MOST_WORTH = 50
NOT_AS_TOLD = -22
NO_SUCH_PARTY = -2
PLAINLY = 0
AHEAD = 1


def order(n, seats, worth):
    """How many offices there are, then whose turn it is, one behind another."""
    if not as_told(n, seats, worth):
        return [NOT_AS_TOLD]
    return [n] + choosers(n, seats)


def plain(n, seats, worth):
    """How many offices there are, then, turn by turn, which of them is taken plainly."""
    if not as_told(n, seats, worth):
        return [NOT_AS_TOLD]
    return [n] + taken_by_all(n, PLAINLY, choosers(n, seats), worth)


def ahead(n, seats, worth):
    """How many offices there are, then, turn by turn, which of them is taken if all choose ahead."""
    if not as_told(n, seats, worth):
        return [NOT_AS_TOLD]
    return [n] + taken_by_all(n, AHEAD, choosers(n, seats), worth)


def alone(n, i, seats, worth):
    """What party i gets if it alone chooses ahead and all others plainly, then what it gets if all choose plainly."""
    if not as_told(n, seats, worth):
        return [NOT_AS_TOLD]
    if i >= len(seats):
        return [NO_SUCH_PARTY]
    parties = choosers(n, seats)
    looking = gets(n, i, parties, taken_ahead(n, parties, worth, [i]), worth)
    plainly = gets(n, i, parties, taken_plainly(n, parties, worth), worth)
    return [looking, plainly]


def gains(n, k, seats, worth):
    """How many parties there are, then what each gets if all choose plainly (k 0) or ahead (k 1)."""
    if k > AHEAD or not as_told(n, seats, worth):
        return [NOT_AS_TOLD]
    parties = choosers(n, seats)
    offices = taken_by_all(n, k, parties, worth)
    return [len(seats)] + [gets(n, party, parties, offices, worth) for party in range(len(seats))]


def swaps(n, k, seats, worth):
    """How many pairs of offices two parties would swap, then these, if all choose plainly (k 0) or ahead (k 1)."""
    if k > AHEAD or not as_told(n, seats, worth):
        return [NOT_AS_TOLD]
    parties = choosers(n, seats)
    pairs = pairs_to_swap(n, holders_of(parties, taken_by_all(n, k, parties, worth)), worth)
    answer = [len(pairs)]
    for pair in pairs:
        answer.extend(pair)
    return answer


def as_told(n, seats, worth):
    """Whether offices, seats and worths are such as the calls take."""
    if n > MOST_OFFICES:
        return False
    if len(seats) < 1 or len(seats) > MOST_PARTIES:
        return False
    if len(worth) != n * len(seats):
        return False
    return within(seats, 1, MOST_SEATS) and within(worth, 0, MOST_WORTH)


def within(numbers, least, most):
    """Whether none of the numbers is below the least or above the most."""
    for number in numbers:
        if number < least or number > most:
            return False
    return True


def choosers(n, seats):
    """The party of each of n turns."""
    had = [0] * len(seats)
    parties = []
    for turn in range(n):
        party = party_on_turn(seats, had)
        parties.append(party)
        had[party] = had[party] + 1
    return parties


def party_on_turn(seats, had):
    """The party that chooses when each has had so many offices."""
    best = 0
    for party in range(1, len(seats)):
        # Crosswise products keep the quotients exact; a division would round unlike ones to like ones.
        # Only a greater quotient displaces, so of like ones the first party stays.
        if seats[party] * (had[best] + 1) > seats[best] * (had[party] + 1):
            best = party
    return best


def taken_by_all(n, k, parties, worth):
    """The office of each turn, if all choose plainly or all ahead."""
    if k == AHEAD:
        return taken_ahead(n, parties, worth, parties)
    return taken_plainly(n, parties, worth)


def taken_plainly(n, parties, worth):
    """The office of each turn, if the party on turn takes the one that is worth most to it."""
    free = list(range(n))
    taken = []
    for party in parties:
        office = worth_most(free, worths_of(n, party, worth))
        taken.append(office)
        free.remove(office)
    return taken


def worths_of(n, party, worth):
    """What each office is worth to a party."""
    return worth[party * n:party * n + n]


def worth_most(free, own_worth):
    """The free office that is worth most; free ones stand by number, so of like ones the first stays."""
    best = free[0]
    for office in free:
        if own_worth[office] > own_worth[best]:
            best = office
    return best


def taken_ahead(n, parties, worth, lookers):
    """The office of each turn, if the lookers take the one by which they get most in the end, all others plainly."""
    # What is free at a later turn lies within what is free now, so what follows each choice is found already.
    follows = {(): []}
    for free in parts_of_offices(n):
        left = parties[n - len(free):]
        weighed = list(free)
        if left[0] not in lookers:
            weighed = [worth_most(free, worths_of(n, left[0], worth))]
        courses = [[office] + follows[without(free, office)] for office in weighed]
        follows[free] = best_course(n, left, courses, worth)
    return follows[tuple(range(n))]


def parts_of_offices(n):
    """Some or all of n offices, by number, in every way; each part stands behind those that lie within it."""
    parts = [()]
    for office in range(n):
        parts = parts + [part + (office,) for part in parts]
    return parts[1:]


def without(offices, office):
    """The offices but one."""
    return tuple([other for other in offices if other != office])


def best_course(n, parties, courses, worth):
    """The course that brings most to the first of these parties; of like ones the first stays."""
    best = courses[0]
    for course in courses:
        if gets(n, parties[0], parties, course, worth) > gets(n, parties[0], parties, best, worth):
            best = course
    return best


def gets(n, party, parties, offices, worth):
    """What a party's offices are worth to it, together, as these parties take these offices turn by turn."""
    together = 0
    for chooser, office in zip(parties, offices):
        if chooser == party:
            together = together + worth[party * n + office]
    return together


def holders_of(parties, offices):
    """The party that has each office, office by office, as these parties take these offices turn by turn."""
    holders = [0] * len(offices)
    for party, office in zip(parties, offices):
        holders[office] = party
    return holders


def pairs_to_swap(n, holders, worth):
    """The pairs of offices, the lesser first, by it, then by the greater, that both holders would rather swap."""
    pairs = []
    for lesser in range(n):
        for greater in range(lesser + 1, n):
            # Of one party's own two offices not each is worth more than the other, so these never make a pair.
            if (would_rather(n, holders[lesser], greater, lesser, worth)
                    and would_rather(n, holders[greater], lesser, greater, worth)):
                pairs.append((lesser, greater))
    return pairs


def would_rather(n, party, other, own, worth):
    """Whether the other office is worth more to a party than its own."""
    return worth[party * n + other] > worth[party * n + own]
