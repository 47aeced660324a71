"""How words are found: by the search, by the letters that they share, by the fewest faults.

The search opens beginnings, the best first, only until enough words are told.
Rows of letters are tuples here: Python's order of tuples is the document's "earlier".
"""

LAST_LETTER = 26


def words_that_begin(weights, typed):
    chosen = {}
    for word, weight in weights.items():
        if word[:len(typed)] == typed:
            chosen[word] = weight
    return chosen


# Between the earliest and the latest lie only words that share what these two share.
def shared_letters(words):
    shared = []
    for letter, other in zip(min(words), max(words)):
        if letter != other:
            break
        shared.append(letter)
    return shared


# Letter by letter of what's typed: from the letters so far, the faults to each beginning of the word,
# the empty one first. A letter is left out, another stands in its place, or one is put in.
def fewest_faults(typed, word):
    faults = list(range(len(word) + 1))
    for letter in typed:
        before = faults
        faults = [before[0] + 1]
        for place, wanted in enumerate(word):
            changed = before[place] if letter == wanted else before[place] + 1
            faults.append(min(before[place + 1] + 1, changed, faults[place] + 1))
    return min(faults)


def heaviest_words(weights, typed):
    heaviest = {}
    for word, weight in weights.items():
        for size in range(len(typed), len(word) + 1):
            beginning = word[:size]
            heaviest[beginning] = max(weight, heaviest.get(beginning, 0))
    return heaviest


# One row that lies ready, as a beginning or as a word.
class Entry:

    def __init__(self, weight, row, as_word):
        self.weight = weight
        self.row = row
        self.as_word = as_word


# No third part is needed: a beginning and a word that are the same row never lie ready together.
def place_in_order(entry):
    return (-entry.weight, entry.row)


class Search:

    def __init__(self, weights, typed):
        # A copy: the search is of the words as they were when it began.
        self.weight_of = words_that_begin(weights, typed)
        # Its keys are all the beginnings that the search could open.
        self.heaviest = heaviest_words(self.weight_of, typed)
        self.ready = []
        self.opened = 0
        self.lay_beginning(typed)

    def lay_beginning(self, row):
        if row in self.heaviest:
            self.ready.append(Entry(self.heaviest[row], row, False))

    def open_beginning(self, row):
        self.opened += 1
        if row in self.weight_of:
            self.ready.append(Entry(self.weight_of[row], row, True))
        for letter in range(1, LAST_LETTER + 1):
            self.lay_beginning(row + (letter,))

    def take_first(self):
        first = min(self.ready, key=place_in_order)
        self.ready.remove(first)
        return first

    # What lies ready is kept, so that the next call goes on where this one ended.
    def tell(self, wanted):
        told = []
        while len(told) < wanted and len(self.ready) > 0:
            first = self.take_first()
            if first.as_word:
                told.append((first.row, first.weight))
            else:
                self.open_beginning(first.row)
        return told
