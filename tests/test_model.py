"""Many lists of calls, answered by a second, slow telling of the document and compared."""

import random
import unittest

from tests.lines import answered, best, day, looks, out, use, word


class Model:
    """Keeps to the words of the document; a search is one sorted row of all that it could take."""

    def __init__(self):
        self.words = {}

    def weight(self, row):
        return sum(self.words[row])

    def word(self, v, *row):
        if v > 100000 or not 0 < len(row) < 11 or not set(row) <= set(range(1, 27)):
            return [-1]
        if row not in self.words and len(self.words) == 60:
            return [-5]
        self.words[row] = [v, self.words.get(row, [0, 0])[1]]
        return [len(self.words)]

    def out(self, *row):
        if row not in self.words:
            return [-3]
        del self.words[row]
        return [len(self.words)]

    def use(self, *row):
        if row not in self.words:
            return [-3]
        if self.words[row][1] + 16 > 100000:
            return [-5]
        self.words[row][1] += 16
        return [self.weight(row)]

    def day(self):
        for weights in self.words.values():
            weights[1] >>= 1
        return [sum(self.weight(row) for row in self.words)]

    def in_order(self, typed):
        begun = [row for row in self.words if row[:len(typed)] == typed]
        return sorted(begun, key=lambda row: (-self.weight(row), row))

    def best(self, k, *typed):
        if len(typed) > 12 or not set(typed) <= set(range(1, 27)):
            return [-1]
        chosen = self.in_order(typed)[:k]
        return [len(chosen)] + [number for row in chosen for number in (len(row), *row, self.weight(row))]

    def looks(self, k, *typed):
        if len(typed) > 12 or not set(typed) <= set(range(1, 27)):
            return [-1]
        begun = self.in_order(typed)
        beginnings = {row[:size] for row in begun for size in range(len(typed), len(row) + 1)}
        # Whatever is laid ready comes behind what was opened for it, so all is taken in this order.
        entries = [(-self.weight(row), row, 1) for row in begun]
        for beginning in beginnings:
            heaviest = max(self.weight(row) for row in begun if row[:len(beginning)] == beginning)
            entries.append((-heaviest, beginning, 0))
        opened = told = 0
        for entry in sorted(entries):
            if told >= k:
                break
            told += entry[2]
            opened += 1 - entry[2]
        return [opened, len(beginnings)]


SPELLED = {"word": word, "out": out, "use": use, "day": day, "best": best, "looks": looks}
ODDS = ["word"] * 8 + ["out"] + ["use"] * 4 + ["day"] + ["best"] * 3 + ["looks"] * 3


def some_row(source, longest):
    row = [source.randint(1, 3) for place in range(source.randint(0, longest))]
    if row and source.random() < 0.04:
        row[source.randrange(len(row))] = source.choice([0, 26, 27, 4294967295])
    return row


def some_call(source, longest):
    name = source.choice(ODDS)
    if name == "day":
        return name, []
    row = some_row(source, longest)
    if name == "word":
        return name, [source.choice([0, 1, 2, 3, 16, 20, 100000, 100001]), *row]
    if name in ("best", "looks"):
        return name, [source.choice([0, 1, 2, 3, 5, 60, 4294967295]), *row[:source.choice([0, 1, 2, 13])]]
    return name, row


class ModelTest(unittest.TestCase):

    def compare(self, seed, how_many, longest):
        source = random.Random(seed)
        calls = [some_call(source, longest) for place in range(how_many)]
        model = Model()
        expected = [getattr(model, name)(*numbers) for name, numbers in calls]
        given = answered(*[SPELLED[name](*numbers) for name, numbers in calls])
        self.assertEqual(given, expected, f"seed {seed}: {calls}")

    def test_short_words(self):
        for seed in range(300):
            self.compare(seed, 40, 3)

    def test_long_words(self):
        for seed in range(200):
            self.compare(seed, 40, 14)

    def test_many_words(self):
        for seed in range(8):
            self.compare(seed, 500, 6)


if __name__ == "__main__":
    unittest.main()
