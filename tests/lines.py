"""Builds lines of calls and takes their answers apart, for the tests."""

from pointgroups.groups import answers

LEAST = -2147483648
MOST = 2147483647


def full(*numbers):
    """A point's eight numbers: those given, then zeros."""
    return list(numbers) + [0] * (8 - len(numbers))


def begin():
    return [0]


def point(*numbers):
    return [1, 8] + full(*numbers)


def part(k, rounds):
    return [2, k, rounds]


def group(number):
    return [3, number]


def middle(number):
    return [4, number]


def told(size, *sums):
    """What middle answers."""
    return [size] + full(*sums)


def ask(*calls):
    """Each call's answer, as a list, for the calls as one line."""
    given = answers([number for call in calls for number in call])
    found = []
    at = 0
    while at < len(given):
        size = given[at]
        found.append(given[at + 1:at + 1 + size])
        at += 1 + size
    if at != len(given) or len(found) != len(calls):
        raise ValueError(f"not one answer a call: {given}")
    return found


def ask_last(*calls):
    return ask(*calls)[-1]


def ask_behind(before, *calls):
    """The answers of the calls that stand behind those of before."""
    return ask(*before, *calls)[len(before):]
