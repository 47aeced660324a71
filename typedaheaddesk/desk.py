"""The desk: its words, the calls about them, and how a list of calls is read and answered."""

from typedaheaddesk.search import LAST_LETTER, Search, fewest_faults, shared_letters, words_that_begin

NOT_AS_TOLD = -1
NO_SEARCH = -2
NOT_THERE = -3
TOO_MUCH = -5

MOST_WORDS = 60
MOST_WORD_LETTERS = 10
MOST_LETTERS_TYPED = 12
MOST_OWN_WEIGHT = 100000
MOST_USES_WEIGHT = 100000
ONE_USE_WEIGHT = 16
MOST_FAULTS_ASKED = 3

WORD = 0
OUT = 1
USE = 2
DAY = 3
BEST = 4
LOOKS = 5
BEGIN = 6
MORE = 7
SURE = 8
NEAR = 9
FAULTS = 10
KEYS = 11

# By a call's number: how many whole numbers it has, and how many rows behind them.
SHAPES = (
    (1, 1), (0, 1), (0, 1), (0, 0), (1, 1), (1, 1),
    (0, 1), (1, 0), (0, 1), (2, 1), (1, 1), (1, 1),
)


def are_letters(row):
    return all([1 <= letter <= LAST_LETTER for letter in row])


def is_word(row):
    return 1 <= len(row) <= MOST_WORD_LETTERS and are_letters(row)


def can_be_typed(row):
    return len(row) <= MOST_LETTERS_TYPED and are_letters(row)


def told_with_weight(word, weight):
    return [len(word)] + list(word) + [weight]


def told_with_weights(pairs):
    numbers = []
    for word, weight in pairs:
        numbers.extend(told_with_weight(word, weight))
    return numbers


def place_when_near(found):
    return (found[2], -found[1], found[0])


# Each word as (the word, its weight, its faults), in the order in which near tells them.
def near_words(weights, typed, most_faults):
    found = []
    for word, weight in weights.items():
        faults = fewest_faults(typed, word)
        if faults <= most_faults:
            found.append((word, weight, faults))
    return sorted(found, key=place_when_near)


# Each call's method gives back the list of numbers that the call answers.
class Desk:

    def __init__(self):
        # Two dicts with the same keys, the words as tuples of letters.
        self.own_weights = {}
        self.uses_weights = {}
        self.open_search = None

    def weights_now(self):
        weights = {}
        for row, own in self.own_weights.items():
            weights[row] = own + self.uses_weights[row]
        return weights

    def word(self, v, letters):
        if v > MOST_OWN_WEIGHT or not is_word(letters):
            return [NOT_AS_TOLD]
        if letters not in self.own_weights and len(self.own_weights) >= MOST_WORDS:
            return [TOO_MUCH]
        self.own_weights[letters] = v
        self.uses_weights.setdefault(letters, 0)
        return [len(self.own_weights)]

    def out(self, letters):
        if letters not in self.own_weights:
            return [NOT_THERE]
        self.own_weights.pop(letters)
        # The uses go too: a word that comes in again begins without any.
        self.uses_weights.pop(letters)
        return [len(self.own_weights)]

    def use(self, letters):
        if letters not in self.own_weights:
            return [NOT_THERE]
        uses = self.uses_weights[letters] + ONE_USE_WEIGHT
        if uses > MOST_USES_WEIGHT:
            return [TOO_MUCH]
        self.uses_weights[letters] = uses
        return [self.own_weights[letters] + uses]

    def day(self):
        for row in list(self.uses_weights):
            self.uses_weights[row] = self.uses_weights[row] // 2
        return [sum(self.weights_now().values())]

    def best(self, k, letters):
        if not can_be_typed(letters):
            return [NOT_AS_TOLD]
        told = Search(self.weights_now(), letters).tell(k)
        return [len(told)] + told_with_weights(told)

    def looks(self, k, letters):
        if not can_be_typed(letters):
            return [NOT_AS_TOLD]
        search = Search(self.weights_now(), letters)
        search.tell(k)
        return [search.opened, len(search.heaviest)]

    def begin(self, letters):
        if not can_be_typed(letters):
            return [NOT_AS_TOLD]
        self.open_search = Search(self.weights_now(), letters)
        return [len(self.open_search.weight_of)]

    def more(self, n):
        if self.open_search is None:
            return [NO_SEARCH]
        told = self.open_search.tell(n)
        return [len(told)] + told_with_weights(told) + [self.open_search.opened]

    def sure(self, letters):
        if not can_be_typed(letters):
            return [NOT_AS_TOLD]
        begun = list(words_that_begin(self.own_weights, letters))
        if len(begun) == 0:
            return [NOT_THERE]
        further = shared_letters(begun)[len(letters):]
        return [len(further)] + further

    def near(self, e, k, letters):
        if e > MOST_FAULTS_ASKED or not can_be_typed(letters):
            return [NOT_AS_TOLD]
        found = near_words(self.weights_now(), letters, e)
        numbers = [len(found), min(k, len(found))]
        for word, weight, faults in found[:k]:
            numbers.extend(told_with_weight(word, weight))
            numbers.append(faults)
        return numbers

    # The word need not be the desk's, nor any word: what can be typed is asked of both parts alike.
    def faults(self, n, letters):
        typed = letters[:n]
        word = letters[n:]
        if len(letters) < n or not can_be_typed(typed) or not can_be_typed(word):
            return [NOT_AS_TOLD]
        return [fewest_faults(typed, word)]

    # Not called keys: that name is kept for what is walked on the spot.
    def keys_to(self, k, letters):
        if letters not in self.own_weights:
            return [NOT_THERE]
        weights = self.weights_now()
        # All letters and one key always do, even if the word isn't among the best k.
        ways = [(len(letters) + 1, len(letters))]
        for size in range(len(letters) + 1):
            told = [row for row, weight in Search(weights, letters[:size]).tell(k)]
            if letters in told:
                ways.append((size + told.index(letters) + 1, size))
        return list(min(ways))


def answer(desk, call, numbers, letters):
    if call == WORD:
        return desk.word(numbers[0], letters)
    if call == OUT:
        return desk.out(letters)
    if call == USE:
        return desk.use(letters)
    if call == DAY:
        return desk.day()
    if call == BEST:
        return desk.best(numbers[0], letters)
    if call == LOOKS:
        return desk.looks(numbers[0], letters)
    if call == BEGIN:
        return desk.begin(letters)
    if call == MORE:
        return desk.more(numbers[0])
    if call == SURE:
        return desk.sure(letters)
    if call == NEAR:
        return desk.near(numbers[0], numbers[1], letters)
    if call == FAULTS:
        return desk.faults(numbers[0], letters)
    return desk.keys_to(numbers[0], letters)


# Each call as (its number, its whole numbers, its letters); one without a row has no letters.
def read_calls(calls):
    read = []
    place = 0
    while place < len(calls):
        call = calls[place]
        shape = SHAPES[call]
        end = place + 1 + shape[0]
        numbers = calls[place + 1:end]
        letters = ()
        if shape[1] == 1:
            begin = end + 1
            end = begin + calls[begin - 1]
            letters = tuple(calls[begin:end])
        read.append((call, numbers, letters))
        place = end
    return read


def answers(calls):
    desk = Desk()
    given = []
    for call, numbers, letters in read_calls(calls):
        answered = answer(desk, call, numbers, letters)
        given.append(len(answered))
        given.extend(answered)
    return given
