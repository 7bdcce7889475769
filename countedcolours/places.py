"""Places, the group of the exchanges told of them, and how many colourings are not alike."""

MOST_PLACES = 10
MOST_EXCHANGES = 200
MOST_SHOWN = 24
MOST_COLOURS = 1000


class UnknownCall(Exception):
    """A call whose number stands for none of those that are answered."""


class Lot:
    """One lot of places: how many they are, the exchanges told, and their group in order."""

    def __init__(self):
        self.size = 1
        self.told = []
        self.group = [all_stays(1)]


def all_stays(size):
    """The exchange by which each place goes to itself."""
    return tuple(range(size))


def is_exchange(numbers, size):
    """Whether the numbers tell of each place to which it goes, no two to the same."""
    return sorted(numbers) == list(range(size))


def done_behind(before, after):
    """The one exchange that does what the two do, one behind the other."""
    return tuple([after[place] for place in before])


def group_of(told, size):
    """The group of the told exchanges, in order; None if it has more than are allowed.

    An exchange done often enough is undone, so going on by the told ones alone reaches all.
    """
    found = {all_stays(size): True}
    reached = list(found)
    position = 0
    while position < len(reached):
        for exchange in told:
            made = done_behind(reached[position], exchange)
            if made not in found:
                found[made] = True
                reached.append(made)
        # Asked at every step, since the whole group may have millions.
        if len(reached) > MOST_EXCHANGES:
            return None
        position += 1
    return sorted(reached)


def ring_numbers(exchange):
    """How many rings of length 1, 2, and so on up to all places the exchange has."""
    numbers = [0] * len(exchange)
    walked = [False] * len(exchange)
    for start in range(len(exchange)):
        length = 0
        place = start
        while not walked[place]:
            walked[place] = True
            length += 1
            place = exchange[place]
        if length > 0:
            numbers[length - 1] += 1
    return tuple(numbers)


def power(base, exponent):
    """The base, as many times as the exponent tells, multiplied."""
    product = 1
    for step in range(exponent):
        product *= base
    return product


def answer_places(lot, size):
    """Begins anew with so many places, with no exchange told."""
    if size < 1 or size > MOST_PLACES:
        return [-1]
    lot.size = size
    lot.told = []
    lot.group = [all_stays(size)]
    return [size]


def answer_turn(lot, numbers):
    """Takes one more exchange among those told; answers how many the group has then."""
    if not is_exchange(numbers, lot.size):
        return [-1]
    exchange = tuple(numbers)
    # One that the group has makes nothing new: left out, it keeps those told few.
    if exchange not in lot.group:
        told = lot.told + [exchange]
        group = group_of(told, lot.size)
        if group is None:
            return [-2]
        lot.told = told
        lot.group = group
    return [len(lot.group)]


def answer_group(lot):
    """How many exchanges the group has; then they, where they are few enough."""
    answer = [len(lot.group)]
    if len(lot.group) <= MOST_SHOWN:
        for exchange in lot.group:
            answer.extend(exchange)
    return answer


def orbit_of(lot, place):
    """The places to which the group takes the place, rising."""
    return sorted(set([exchange[place] for exchange in lot.group]))


def answer_orbits(lot):
    """How many orbits there are; of each how many places, and these."""
    orbits = []
    for place in range(lot.size):
        orbit = orbit_of(lot, place)
        # Each orbit is met once at each of its places; the least one stands for it.
        if orbit[0] == place:
            orbits.append(orbit)
    answer = [len(orbits)]
    for orbit in orbits:
        answer.append(len(orbit))
        answer.extend(orbit)
    return answer


def answer_kinds(lot):
    """How many kinds there are; of each how many exchanges, and its numbers of rings."""
    exchanges = {}
    for exchange in lot.group:
        kind = ring_numbers(exchange)
        exchanges[kind] = exchanges.get(kind, 0) + 1
    answer = [len(exchanges)]
    for kind in sorted(exchanges, reverse=True):
        answer.append(exchanges[kind])
        answer.extend(kind)
    return answer


def answer_count(lot, colours):
    """How many colourings there are by so many colours, those that are alike counted once.

    An exchange leaves the colourings that have one colour on each ring. Those that are alike
    are left, together and over all exchanges, just as often as there are exchanges.
    """
    if colours < 0 or colours > MOST_COLOURS:
        return [-1]
    left = sum([power(colours, sum(ring_numbers(exchange))) for exchange in lot.group])
    return [left // len(lot.group)]


def answer_call(lot, call, numbers):
    """The numbers that one call answers."""
    if call == 0:
        return answer_places(lot, numbers[0])
    if call == 1:
        return answer_turn(lot, numbers)
    if call == 2:
        return answer_group(lot)
    if call == 3:
        return answer_orbits(lot)
    if call == 4:
        return answer_kinds(lot)
    if call == 5:
        return answer_count(lot, numbers[0])
    raise UnknownCall(f"no such call: {call}")


def answers(calls):
    """The answers to all calls on a new lot of places, each behind how many numbers it has."""
    lot = Lot()
    given = []
    position = 0
    while position < len(calls):
        end = position + 2 + calls[position + 1]
        answer = answer_call(lot, calls[position], calls[position + 2:end])
        given.append(len(answer))
        given.extend(answer)
        # None of these calls has lists: behind its numbers stands a 0 alone.
        position = end + 1
    return given
