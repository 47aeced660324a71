"""Many lists of calls, answered by a second, slow telling of the document and compared."""

import functools
import random
import unittest

from tests.lines import (
    begin, best, day, faults, keys, line, looks, more, near, out, sure, use, word,
)
from typedaheaddesk.desk import answers


def can_be_typed(row):
    return len(row) <= 12 and set(row) <= set(range(1, 27))


@functools.lru_cache(maxsize=None)
def changes(one, other):
    """The fewest faults by which the one row becomes the whole of the other."""
    if not one or not other:
        return len(one) + len(other)
    if one[-1] == other[-1]:
        return changes(one[:-1], other[:-1])
    return 1 + min(changes(one[:-1], other), changes(one, other[:-1]), changes(one[:-1], other[:-1]))


def faults_between(typed, row):
    return min(changes(typed, row[:size]) for size in range(len(row) + 1))


class Model:
    """Keeps to the words of the document; a search is one sorted row of all that it could take."""

    def __init__(self):
        self.words = {}
        self.open = None

    def weight(self, row):
        return sum(self.words[row])

    def word(self, v, *row):
        if v > 100000 or not 0 < len(row) < 11 or not set(row) <= set(range(1, 27)):
            return [-1]
        if row not in self.words and len(self.words) == 60:
            return [-5]
        self.words[row] = [v, self.words.get(row, [0, 0])[1]]
        return [len(self.words)]

    def out(self, *row):
        if row not in self.words:
            return [-3]
        del self.words[row]
        return [len(self.words)]

    def use(self, *row):
        if row not in self.words:
            return [-3]
        if self.words[row][1] + 16 > 100000:
            return [-5]
        self.words[row][1] += 16
        return [self.weight(row)]

    def day(self):
        for weights in self.words.values():
            weights[1] >>= 1
        return [sum(self.weight(row) for row in self.words)]

    def in_order(self, typed):
        begun = [row for row in self.words if row[:len(typed)] == typed]
        return sorted(begun, key=lambda row: (-self.weight(row), row))

    def best(self, k, *typed):
        if not can_be_typed(typed):
            return [-1]
        chosen = self.in_order(typed)[:k]
        return [len(chosen)] + [number for row in chosen for number in (len(row), *row, self.weight(row))]

    def beginnings(self, typed):
        return {row[:size] for row in self.in_order(typed) for size in range(len(typed), len(row) + 1)}

    def all_taken(self, typed):
        begun = self.in_order(typed)
        # Whatever is laid ready comes behind what was opened for it, so all is taken in this order.
        entries = [(-self.weight(row), row, 1) for row in begun]
        for beginning in self.beginnings(typed):
            heaviest = max(self.weight(row) for row in begun if row[:len(beginning)] == beginning)
            entries.append((-heaviest, beginning, 0))
        return sorted(entries)

    def looks(self, k, *typed):
        if not can_be_typed(typed):
            return [-1]
        opened = told = 0
        for entry in self.all_taken(typed):
            if told >= k:
                break
            told += entry[2]
            opened += 1 - entry[2]
        return [opened, len(self.beginnings(typed))]

    def begin(self, *typed):
        if not can_be_typed(typed):
            return [-1]
        self.open = {"left": self.all_taken(typed), "opened": 0}
        return [len(self.in_order(typed))]

    def more(self, n):
        if self.open is None:
            return [-2]
        told = []
        while len(told) < n and self.open["left"]:
            minus_weight, row, is_word = self.open["left"].pop(0)
            if is_word:
                told.append([len(row), *row, -minus_weight])
            else:
                self.open["opened"] += 1
        return [len(told), *sum(told, []), self.open["opened"]]

    def sure(self, *typed):
        if not can_be_typed(typed):
            return [-1]
        begun = self.in_order(typed)
        if not begun:
            return [-3]
        size = len(typed)
        while len({row[:size + 1] for row in begun}) == 1 and all(len(row) > size for row in begun):
            size += 1
        return [size - len(typed), *begun[0][len(typed):size]]

    def near(self, e, k, *typed):
        if not can_be_typed(typed) or e > 3:
            return [-1]
        found = [row for fault in range(e + 1) for row in self.in_order(()) if faults_between(typed, row) == fault]
        told = [[len(row), *row, self.weight(row), faults_between(typed, row)] for row in found[:k]]
        return [len(found), len(told), *sum(told, [])]

    def faults(self, n, *letters):
        if n > len(letters) or not can_be_typed(letters[:n]) or not can_be_typed(letters[n:]):
            return [-1]
        return [faults_between(letters[:n], letters[n:])]

    def keys(self, k, *row):
        if row not in self.words:
            return [-3]
        fewest = None
        for size in range(len(row) + 1):
            place = self.in_order(row[:size]).index(row) + 1
            ways = [size + place] if place <= k else []
            if size == len(row):
                ways.append(size + 1)
            for way in ways:
                if fewest is None or way < fewest[0]:
                    fewest = [way, size]
        return fewest


SPELLED = {
    "word": word, "out": out, "use": use, "day": day, "best": best, "looks": looks,
    "begin": begin, "more": more, "sure": sure, "near": near, "faults": faults, "keys": keys,
}
ODDS = ["word"] * 12 + ["out"] * 2 + ["use"] * 4 + ["day"] * 2 + ["best"] * 3 + ["looks"] * 3
ODDS += ["begin"] * 2 + ["more"] * 5 + ["sure"] * 3 + ["near"] * 3 + ["faults"] * 2 + ["keys"] * 4
COUNTS = [0, 1, 2, 3, 5, 60, 4294967295]


def some_row(source, longest):
    row = [source.randint(1, 3) for place in range(source.randint(0, longest))]
    if row and source.random() < 0.04:
        row[source.randrange(len(row))] = source.choice([0, 26, 27, 4294967295])
    return row


def some_call(source, longest, known):
    """A call's name and numbers; known are the rows that words were put in with so far."""
    name = source.choice(ODDS)
    if name == "day":
        return name, []
    if name == "more":
        return name, [source.choice(COUNTS)]
    row = some_row(source, longest)
    if name == "word":
        known.append(row)
        return name, [source.choice([0, 1, 2, 3, 16, 20, 100000, 100001]), *row]
    if name == "faults":
        row = row + some_row(source, longest)
        return name, [source.randint(0, len(row) + source.choice([0, 0, 0, 1])), *row]
    if known and source.random() < 0.6:
        row = source.choice(known)
    if name in ("out", "use"):
        return name, row
    if name == "keys":
        return name, [source.choice(COUNTS), *row]
    typed = row[:source.choice([0, 1, 2, 4, 30])]
    if name in ("best", "looks"):
        return name, [source.choice(COUNTS), *typed]
    if name == "near":
        return name, [source.choice([0, 1, 1, 2, 2, 3, 3, 4]), source.choice(COUNTS), *typed]
    return name, typed


def some_calls(seed, how_many, longest):
    source = random.Random(seed)
    known = []
    return [some_call(source, longest, known) for place in range(how_many)]


def of_the_model(calls):
    model = Model()
    numbers = []
    for name, told in calls:
        answer = getattr(model, name)(*told)
        numbers += [len(answer), *answer]
    return numbers


class ModelTest(unittest.TestCase):

    def compare(self, seed, how_many, longest):
        calls = some_calls(seed, how_many, longest)
        handed_in = line(*[SPELLED[name](*told) for name, told in calls])
        kept = list(handed_in)
        given = answers(handed_in)
        self.assertEqual(given, of_the_model(calls), f"seed {seed}: {calls}")
        self.assertEqual(handed_in, kept)
        self.assertEqual(answers(handed_in), given)

    def test_short_words(self):
        for seed in range(600):
            self.compare(seed, 1 + seed % 40, 3)

    def test_long_words(self):
        for seed in range(400):
            self.compare(seed, 40 - seed % 40, 14)

    def test_many_words(self):
        for seed in range(8):
            self.compare(seed, 500, 6)

    def test_each_kind_of_call_is_answered_and_refused(self):
        seen = set()
        for seed in range(100):
            calls = some_calls(seed, 40, 3 if seed % 2 else 14)
            model = Model()
            for name, told in calls:
                seen.add((name, min(0, getattr(model, name)(*told)[0])))
        wanted = {(name, 0) for name in SPELLED}
        wanted |= {(name, -1) for name in ("word", "best", "looks", "begin", "sure", "near", "faults")}
        wanted |= {(name, -3) for name in ("out", "use", "keys", "sure")} | {("more", -2)}
        self.assertEqual(wanted - seen, set())


if __name__ == "__main__":
    unittest.main()
