"""Calls written as numbers, answers taken apart again, and groups that several tests ask about."""

from countedcolours.places import answers

GROUP = [2, 0, 0]
ORBITS = [3, 0, 0]
KINDS = [4, 0, 0]

FAR_OUT = (-4294967295, 4294967295)


def places(n):
    return [0, 1, n, 0]


def turn(*exchange):
    return [1, len(exchange), *exchange, 0]


def count(k):
    return [5, 1, k, 0]


def by(*numbers):
    return [6, len(numbers), *numbers, 0]


def first(*colouring):
    return [7, len(colouring), *colouring, 0]


def listed(k, i):
    return [8, 2, k, i, 0]


def alike(colouring, other):
    return [9, 0, 2, len(colouring), *colouring, len(other), *other]


def member(*exchange):
    return [10, len(exchange), *exchange, 0]


NECKLACE_OF_SIX = (places(6), turn(1, 2, 3, 4, 5, 0), turn(5, 4, 3, 2, 1, 0))
NECKLACE_OF_EIGHT = (places(8), turn(1, 2, 3, 4, 5, 6, 7, 0), turn(7, 6, 5, 4, 3, 2, 1, 0))
# Faces 0 and 5, 1 and 4, 2 and 3 of the die lie across from one another.
DIE = (places(6), turn(0, 2, 4, 1, 3, 5), turn(1, 5, 2, 3, 0, 4))
BOARD_OF_NINE = (places(9), turn(2, 5, 8, 1, 4, 7, 0, 3, 6), turn(2, 1, 0, 5, 4, 3, 8, 7, 6))
# Two necklaces of five beads that may be swapped: the group has 200 exchanges.
TWO_HUNDRED = (
    places(10), turn(1, 2, 3, 4, 0, 5, 6, 7, 8, 9), turn(0, 4, 3, 2, 1, 5, 6, 7, 8, 9),
    turn(5, 6, 7, 8, 9, 0, 1, 2, 3, 4))


def answered(*calls):
    """The answers to the calls, a list for each."""
    numbers = [number for call in calls for number in call]
    # Only such lists are handed in; the tests keep to that, too.
    if sum(10 if call[0] == 8 else 1 for call in calls) > 40 or len(numbers) > 1500:
        raise AssertionError("more calls than may be handed in")
    given = answers(numbers)
    apart = []
    while given:
        length = given[0]
        if length < 1 or length >= len(given):
            raise AssertionError(f"an answer with {length} numbers, {len(given) - 1} are left")
        apart.append(given[1:length + 1])
        given = given[length + 1:]
    if len(apart) != len(calls):
        raise AssertionError(f"{len(calls)} calls, {len(apart)} answers")
    return apart


def last(*calls):
    """The answer to the last of the calls."""
    return answered(*calls)[-1]


def all_made(told, n):
    """The group, in order, by putting each two together until nothing new is made."""
    made = {tuple(range(n)), *told}
    while True:
        more = {tuple(b[a[i]] for i in range(n)) for a in made for b in made}
        if more == made:
            return sorted(made)
        made = more


def moved(colouring, exchange):
    """The colouring moved, place by place."""
    there = [None] * len(colouring)
    for place, goes_to in enumerate(exchange):
        there[goes_to] = colouring[place]
    return tuple(there)
