"""Calls written as numbers, and answers taken apart again, for the tests."""

from countedcolours.places import answers

GROUP = [2, 0, 0]
ORBITS = [3, 0, 0]
KINDS = [4, 0, 0]

FAR_OUT = (-4294967295, 4294967295)


def places(n):
    return [0, 1, n, 0]


def turn(*exchange):
    return [1, len(exchange), *exchange, 0]


def count(k):
    return [5, 1, k, 0]


def answered(*calls):
    """The answers to the calls, a list for each."""
    given = answers([number for call in calls for number in call])
    apart = []
    while given:
        length = given[0]
        if length < 1 or length >= len(given):
            raise AssertionError(f"an answer with {length} numbers, {len(given) - 1} are left")
        apart.append(given[1:length + 1])
        given = given[length + 1:]
    if len(apart) != len(calls):
        raise AssertionError(f"{len(calls)} calls, {len(apart)} answers")
    return apart


def last(*calls):
    """The answer to the last of the calls."""
    return answered(*calls)[-1]
