"""What the tests share: calls as tuples, answers as lists, and turning one by one."""

from wrappingturns.chains import answers

MOST_CALLS = 40
GREATEST = 4294967295


def width(n):
    return [0, n]


def turns(r, a, s, b):
    return [1, r, a, s, b]


def lands(a, s, lo, hi):
    return [2, a, s, lo, hi]


def chain(x, words):
    return [3, x, len(words)] + list(words)


def shows(x):
    return [4, x]


def at(x, k):
    return [5, x, k]


def sum_of(x, k):
    return [6, x, k]


def plus(z, x, y):
    return [7, z, x, y]


def less(z, x, y):
    return [8, z, x, y]


def times(z, x, y):
    return [9, z, x, y]


def ahead(z, x, d):
    return [10, z, x, d]


def every(z, x, d):
    return [11, z, x, d]


def sums(z, x):
    return [12, z, x]


def period(x):
    return [13, x]


def same(x, y):
    return [14, x, y]


def after(x, r, a, s, b):
    return [15, x, r, a, s, b]


def meets(a, s, b, t, n):
    return [16, a, s, b, t, n]


def apart(a, s, b, t, n):
    return [17, a, s, b, t, n]


def flat(calls):
    return [number for call in calls for number in call]


def split(given):
    """The answers, a list each, out of the one list that is given back."""
    found = []
    place = 0
    while place < len(given):
        end = place + 1 + given[place]
        found.append(given[place + 1:end])
        place = end
    if place != len(given):
        raise AssertionError("the last answer is cut off")
    return found


def ask(*calls):
    """The answers to these calls on one new object."""
    found = split(answers(flat(calls)))
    if len(found) != len(calls):
        raise AssertionError("not one answer for each call")
    return found


def ask_many(bits, calls):
    """The answers to however many calls that change nothing, in lists of 40 behind a width."""
    found = []
    for begin in range(0, len(calls), MOST_CALLS - 1):
        found.extend(ask(width(bits), *calls[begin:begin + MOST_CALLS - 1])[1:])
    return found


def as_signed(word, size):
    return word - size if word >= size // 2 else word


def holds(relation, first, second, size):
    if relation >= 5:
        first = as_signed(first, size)
        second = as_signed(second, size)
    return {
        0: first < second, 1: first <= second, 2: first != second, 3: first > second, 4: first >= second,
        5: first < second, 6: first <= second, 7: first > second, 8: first >= second,
    }[relation]


def stepped(start, step, size, ended):
    """Steps one by one until ended says so; after size turns all has come again."""
    word = start
    for k in range(size):
        if ended(word):
            return [1, k, word]
        word = (word + step) % size
    return [0]


def turned_loop(relation, a, s, b, size):
    return stepped(a, s, size, lambda word: not holds(relation, word, b, size))


def stepped_landing(a, s, lo, hi, size):
    return stepped(a, s, size, lambda word: lo <= word <= hi)


def turned_once(words, size):
    return [(one + other) % size for one, other in zip(words, words[1:] + [0])]


def words_by_turning(words, count, size):
    """The chain's word after 0, 1, ... and count - 1 turns."""
    found = []
    now = list(words)
    for k in range(count):
        found.append(now[0])
        now = turned_once(now, size)
    return found


def trimmed(words):
    """Without noughts at the end, but for one that is alone."""
    found = list(words)
    while len(found) > 1 and found[-1] == 0:
        found.pop()
    return found


def with_count(words):
    """A chain as it is answered: how many words it has, then these."""
    kept = trimmed(words)
    return [len(kept)] + kept


def differences(row, size):
    """The chain, however long, whose words after 0, 1, 2, ... turns are this row."""
    found = []
    while row:
        found.append(row[0])
        row = [(later - now) % size for now, later in zip(row, row[1:])]
    return found


def multiplied(first, second, size):
    columns = list(zip(*second))
    return [[sum(one * other for one, other in zip(row, column)) % size for column in columns] for row in first]


def turned_far(words, count, size):
    """All words after so many turns: a turn as a square of numbers, doubled again and again."""
    places = range(len(words))
    power = [[1 if column in (row, row + 1) else 0 for column in places] for row in places]
    result = [[1 if column == row else 0 for column in places] for row in places]
    while count:
        if count % 2:
            result = multiplied(result, power, size)
        power = multiplied(power, power, size)
        count //= 2
    return [sum(one * word for one, word in zip(row, words)) % size for row in result]


def random_chain(source, size, most=8):
    """A chain of words of which some are even, some the greatest and some noughts."""
    kinds = (
        lambda: source.randrange(size), lambda: size - 1, lambda: 0, lambda: size // 2,
        lambda: source.randrange(size) // 2 * 2,
    )
    words = [source.choice(kinds)() for place in range(source.randrange(1, most + 1))]
    return trimmed(words)


def met_pairs(a, s, b, t, n):
    """All pairs of turns in which two rows of places meet, by looking at every pair of their places."""
    return [(j, k) for j in range(n) for k in range(n) if a + j * s == b + k * t]


def met(a, s, b, t, n):
    pairs = met_pairs(a, s, b, t, n)
    return [len(pairs)] + list(min(pairs)) if pairs else [0]


def least_gap(a, s, b, t, n):
    gaps = [k - j for j, k in met_pairs(a, s, b, t, n) if k >= j]
    return [min(gaps)] if gaps else [-6]
