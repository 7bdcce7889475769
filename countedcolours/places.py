"""Places, the group of the exchanges told of them, and colourings counted, listed and compared."""

MOST_PLACES = 10
MOST_EXCHANGES = 200
MOST_SHOWN = 24
MOST_COLOURS = 1000
MOST_NUMBERS = 5
HIGHEST_COLOUR = 9
MOST_LISTED_COLOURS = 3
MOST_STEPS = 100000


class UnknownCall(Exception):
    """A call whose number stands for none of those that are answered."""


class Lot:
    """One lot of places: how many they are, the exchanges told, and their group in order."""

    def __init__(self):
        self.size = 1
        self.told = []
        self.group = [all_stays(1)]


def all_stays(size):
    """The exchange by which each place goes to itself."""
    return tuple(range(size))


def is_exchange(numbers, size):
    """Whether the numbers tell of each place to which it goes, no two to the same."""
    return sorted(numbers) == list(range(size))


def done_behind(before, after):
    """The one exchange that does what the two do, one behind the other."""
    return tuple([after[place] for place in before])


def group_of(told, size):
    """The group of the told exchanges, in order; None if it has more than are allowed.

    An exchange done often enough is undone, so going on by the told ones alone reaches all.
    """
    found = {all_stays(size): True}
    reached = list(found)
    position = 0
    while position < len(reached):
        for exchange in told:
            made = done_behind(reached[position], exchange)
            if made not in found:
                found[made] = True
                reached.append(made)
        # Asked at every step, since the whole group may have millions.
        if len(reached) > MOST_EXCHANGES:
            return None
        position += 1
    return sorted(reached)


def ring_numbers(exchange):
    """How many rings of length 1, 2, and so on up to all places the exchange has."""
    numbers = [0] * len(exchange)
    walked = [False] * len(exchange)
    for start in range(len(exchange)):
        length = 0
        place = start
        while not walked[place]:
            walked[place] = True
            length += 1
            place = exchange[place]
        if length > 0:
            numbers[length - 1] += 1
    return tuple(numbers)


def kinds_of(group):
    """How many exchanges of the group there are of each kind, by the kind's numbers of rings."""
    exchanges = {}
    for exchange in group:
        kind = ring_numbers(exchange)
        exchanges[kind] = exchanges.get(kind, 0) + 1
    return exchanges


def power(base, exponent):
    """The base, as many times as the exponent tells, multiplied."""
    product = 1
    for step in range(exponent):
        product *= base
    return product


def times_till_all_stays(exchange):
    """How many times, at the fewest, the exchange is to be done till all is as it was."""
    stays = all_stays(len(exchange))
    made = exchange
    times = 1
    while made != stays:
        made = done_behind(made, exchange)
        times += 1
    return times


def all_up_to(numbers, most):
    """Whether each of the numbers is from 0 to the most that is allowed."""
    return all([number >= 0 and number <= most for number in numbers])


def is_colouring(numbers, size):
    """Whether the numbers tell of each place a colour that is allowed."""
    return len(numbers) == size and all_up_to(numbers, HIGHEST_COLOUR)


def moved(colouring, exchange):
    """The colouring that has at the place to which a place goes what was at that place."""
    there = [0] * len(colouring)
    for place in range(len(colouring)):
        there[exchange[place]] = colouring[place]
    return tuple(there)


def is_first(colouring, group):
    """Whether no exchange of the group moves the colouring to one ahead of it."""
    for exchange in group:
        if moved(colouring, exchange) < colouring:
            return False
    return True


def colouring_numbered(number, colours, size):
    """Of all colourings by so many colours, in order, the one with the number, from 0 on."""
    colouring = [0] * size
    left = number
    # In order the last place changes fastest.
    for place in range(size - 1, -1, -1):
        colouring[place] = left % colours
        left = left // colours
    return tuple(colouring)


def ring_coloured(ways, length):
    """The ways to have so many places of each colour left, when a ring more has one colour."""
    further = {}
    for left in ways:
        for colour in range(len(left)):
            if left[colour] >= length:
                fewer = left[:colour] + (left[colour] - length,) + left[colour + 1:]
                further[fewer] = further.get(fewer, 0) + ways[left]
    return further


def ways_on_rings(kind, numbers):
    """How many colourings have just so many places of each colour, and one colour on each ring."""
    ways = {tuple(numbers): 1}
    for position in range(len(kind)):
        for ring in range(kind[position]):
            ways = ring_coloured(ways, position + 1)
    return ways.get(tuple([0] * len(numbers)), 0)


def answer_places(lot, size):
    """Begins anew with so many places, with no exchange told."""
    if size < 1 or size > MOST_PLACES:
        return [-1]
    lot.size = size
    lot.told = []
    lot.group = [all_stays(size)]
    return [size]


def answer_turn(lot, numbers):
    """Takes one more exchange among those told; answers how many the group has then."""
    if not is_exchange(numbers, lot.size):
        return [-1]
    exchange = tuple(numbers)
    # One that the group has makes nothing new: left out, it keeps those told few.
    if exchange not in lot.group:
        told = lot.told + [exchange]
        group = group_of(told, lot.size)
        if group is None:
            return [-2]
        lot.told = told
        lot.group = group
    return [len(lot.group)]


def answer_group(lot):
    """How many exchanges the group has; then they, where they are few enough."""
    answer = [len(lot.group)]
    if len(lot.group) <= MOST_SHOWN:
        for exchange in lot.group:
            answer.extend(exchange)
    return answer


def orbit_of(lot, place):
    """The places to which the group takes the place, rising."""
    return sorted(set([exchange[place] for exchange in lot.group]))


def answer_orbits(lot):
    """How many orbits there are; of each how many places, and these."""
    orbits = []
    for place in range(lot.size):
        orbit = orbit_of(lot, place)
        # Each orbit is met once at each of its places; the least one stands for it.
        if orbit[0] == place:
            orbits.append(orbit)
    answer = [len(orbits)]
    for orbit in orbits:
        answer.append(len(orbit))
        answer.extend(orbit)
    return answer


def answer_kinds(lot):
    """How many kinds there are; of each how many exchanges, and its numbers of rings."""
    exchanges = kinds_of(lot.group)
    answer = [len(exchanges)]
    for kind in sorted(exchanges, reverse=True):
        answer.append(exchanges[kind])
        answer.extend(kind)
    return answer


def answer_count(lot, colours):
    """How many colourings there are by so many colours, those that are alike counted once.

    An exchange leaves the colourings that have one colour on each ring. Those that are alike
    are left, together and over all exchanges, just as often as there are exchanges.
    """
    if colours < 0 or colours > MOST_COLOURS:
        return [-1]
    exchanges = kinds_of(lot.group)
    left = sum([exchanges[kind] * power(colours, sum(kind)) for kind in exchanges])
    return [left // len(lot.group)]


def answer_by(lot, numbers):
    """How many colourings there are with so many places of each colour, alike ones counted once."""
    if len(numbers) < 1 or len(numbers) > MOST_NUMBERS or not all_up_to(numbers, MOST_PLACES):
        return [-1]
    # There is no such colouring then; to find that out ring by ring takes long.
    if sum(numbers) != lot.size:
        return [0]
    exchanges = kinds_of(lot.group)
    left = sum([exchanges[kind] * ways_on_rings(kind, numbers) for kind in exchanges])
    return [left // len(lot.group)]


def answer_first(lot, numbers):
    """How many exchanges leave the colouring; how many are alike to it; the first of these."""
    if not is_colouring(numbers, lot.size):
        return [-1]
    everywhere = [moved(numbers, exchange) for exchange in lot.group]
    return [everywhere.count(tuple(numbers)), len(set(everywhere))] + list(min(everywhere))


def answer_listed(lot, colours, number):
    """Of the firsts by so many colours, in order, the one with the number, from 0 on."""
    if colours < 1 or colours > MOST_LISTED_COLOURS or number < 0:
        return [-1]
    colourings = power(colours, lot.size)
    if len(lot.group) * colourings > MOST_STEPS:
        return [-5]
    ahead = 0
    for position in range(colourings):
        colouring = colouring_numbered(position, colours, lot.size)
        if is_first(colouring, lot.group):
            if ahead == number:
                return list(colouring)
            ahead += 1
    return [-3]


def answer_alike(lot, numbers, others):
    """1 and the first exchange that moves the one colouring to the other; 0 if there is none."""
    if not is_colouring(numbers, lot.size) or not is_colouring(others, lot.size):
        return [-1]
    other = tuple(others)
    for exchange in lot.group:
        if moved(numbers, exchange) == other:
            return [1] + list(exchange)
    return [0]


def answer_member(lot, numbers):
    """Whether the exchange is in the group; how many times it is done till all is as it was."""
    if not is_exchange(numbers, lot.size):
        return [-1]
    exchange = tuple(numbers)
    return [1 if exchange in lot.group else 0, times_till_all_stays(exchange)]


def answer_call(lot, call, numbers, lists):
    """The numbers that one call answers."""
    if call == 0:
        return answer_places(lot, numbers[0])
    if call == 1:
        return answer_turn(lot, numbers)
    if call == 2:
        return answer_group(lot)
    if call == 3:
        return answer_orbits(lot)
    if call == 4:
        return answer_kinds(lot)
    if call == 5:
        return answer_count(lot, numbers[0])
    if call == 6:
        return answer_by(lot, numbers)
    if call == 7:
        return answer_first(lot, numbers)
    if call == 8:
        return answer_listed(lot, numbers[0], numbers[1])
    if call == 9:
        return answer_alike(lot, lists[0], lists[1])
    if call == 10:
        return answer_member(lot, numbers)
    raise UnknownCall(f"no such call: {call}")


def counted_at(calls, position):
    """The numbers that stand behind how many they are."""
    start = position + 1
    return calls[start:start + calls[position]]


def answers(calls):
    """The answers to all calls on a new lot of places, each behind how many numbers it has."""
    lot = Lot()
    given = []
    position = 0
    while position < len(calls):
        call = calls[position]
        numbers = counted_at(calls, position + 1)
        position += 2 + len(numbers)
        lists = []
        how_many = calls[position]
        position += 1
        for step in range(how_many):
            one = counted_at(calls, position)
            lists.append(one)
            position += 1 + len(one)
        answer = answer_call(lot, call, numbers, lists)
        given.append(len(answer))
        given.extend(answer)
    return given
