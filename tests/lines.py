"""Spells calls as the interface does, and takes the answers apart again."""

from typedaheaddesk.desk import answers


def word(v, *letters):
    return [0, v, len(letters), *letters]


def out(*letters):
    return [1, len(letters), *letters]


def use(*letters):
    return [2, len(letters), *letters]


def day():
    return [3]


def best(k, *letters):
    return [4, k, len(letters), *letters]


def looks(k, *letters):
    return [5, k, len(letters), *letters]


def begin(*letters):
    return [6, len(letters), *letters]


def more(n):
    return [7, n]


def sure(*letters):
    return [8, len(letters), *letters]


def near(e, k, *letters):
    return [9, e, k, len(letters), *letters]


def faults(n, *letters):
    return [10, n, len(letters), *letters]


def keys(k, *letters):
    return [11, k, len(letters), *letters]


def line(*calls):
    return [number for call in calls for number in call]


def answered(*calls):
    """What each of the calls answers, one list a call."""
    numbers = answers(line(*calls))
    parts = []
    place = 0
    while place < len(numbers):
        behind = place + 1 + numbers[place]
        if behind > len(numbers):
            raise AssertionError("a count goes beyond the answers' end")
        parts.append(numbers[place + 1:behind])
        place = behind
    if len(parts) != len(calls):
        raise AssertionError(f"{len(calls)} calls, but {len(parts)} answers")
    return parts


def last(*calls):
    return answered(*calls)[-1]


def two_letter_rows(how_many):
    """So many different words, the earliest first."""
    return [(1 + place // 26, 1 + place % 26) for place in range(how_many)]
