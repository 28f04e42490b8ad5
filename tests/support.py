"""What the tests share: calls as tuples, answers as lists, and turning one by one."""

from wrappingturns.chains import answers

MOST_CALLS = 40
GREATEST = 4294967295


def width(n):
    return [0, n]


def turns(r, a, s, b):
    return [1, r, a, s, b]


def lands(a, s, lo, hi):
    return [2, a, s, lo, hi]


def chain(x, words):
    return [3, x, len(words)] + list(words)


def shows(x):
    return [4, x]


def at(x, k):
    return [5, x, k]


def sum_of(x, k):
    return [6, x, k]


def plus(z, x, y):
    return [7, z, x, y]


def less(z, x, y):
    return [8, z, x, y]


def flat(calls):
    return [number for call in calls for number in call]


def split(given):
    """The answers, a list each, out of the one list that is given back."""
    found = []
    place = 0
    while place < len(given):
        end = place + 1 + given[place]
        found.append(given[place + 1:end])
        place = end
    if place != len(given):
        raise AssertionError("the last answer is cut off")
    return found


def ask(*calls):
    """The answers to these calls on one new object."""
    found = split(answers(flat(calls)))
    if len(found) != len(calls):
        raise AssertionError("not one answer for each call")
    return found


def ask_many(bits, calls):
    """The answers to however many calls that change nothing, in lists of 40 behind a width."""
    found = []
    for begin in range(0, len(calls), MOST_CALLS - 1):
        found.extend(ask(width(bits), *calls[begin:begin + MOST_CALLS - 1])[1:])
    return found


def as_signed(word, size):
    return word - size if word >= size // 2 else word


def holds(relation, first, second, size):
    if relation >= 5:
        first = as_signed(first, size)
        second = as_signed(second, size)
    return {
        0: first < second, 1: first <= second, 2: first != second, 3: first > second, 4: first >= second,
        5: first < second, 6: first <= second, 7: first > second, 8: first >= second,
    }[relation]


def stepped(start, step, size, ended):
    """Steps one by one until ended says so; after size turns all has come again."""
    word = start
    for k in range(size):
        if ended(word):
            return [1, k, word]
        word = (word + step) % size
    return [0]


def turned_loop(relation, a, s, b, size):
    return stepped(a, s, size, lambda word: not holds(relation, word, b, size))


def stepped_landing(a, s, lo, hi, size):
    return stepped(a, s, size, lambda word: lo <= word <= hi)


def turned_once(words, size):
    return [(one + other) % size for one, other in zip(words, words[1:] + [0])]


def words_by_turning(words, count, size):
    """The chain's word after 0, 1, ... and count - 1 turns."""
    found = []
    now = list(words)
    for k in range(count):
        found.append(now[0])
        now = turned_once(now, size)
    return found
