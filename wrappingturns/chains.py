"""The calls on one new table of chains, taken from and answered in one list of whole numbers."""

from wrappingturns.loops import LAST_RELATION, first_landing, loop_turns
from wrappingturns.rows import least_apart, meetings
from wrappingturns.table import LONGEST, Table, are_chains
from wrappingturns.turning import combined, moved, period_of, product, sum_before, thinned, with_sums, word_after
from wrappingturns.words import are_words

OUT_OF_RANGE = -1
NO_CHAIN = -2
NO_RELATION = -4
TOO_LONG = -5
NO_PAIR = -6

MOST_BITS = 32
GREATEST_OF_ROWS = 1000000
CHAIN = 3


def width(table, numbers):
    bits = numbers[0]
    if bits < 1 or bits > MOST_BITS:
        return [OUT_OF_RANGE]
    table.begin(bits)
    return [bits]


def turns(table, numbers):
    relation = numbers[0]
    if relation > LAST_RELATION:
        return [NO_RELATION]
    if not are_words(numbers[1:], table.size):
        return [OUT_OF_RANGE]
    start = numbers[1]
    step = numbers[2]
    return turned(loop_turns(relation, start, step, numbers[3], table.size), start, step, table.size)


def lands(table, numbers):
    start = numbers[0]
    step = numbers[1]
    low = numbers[2]
    high = numbers[3]
    if not are_words(numbers, table.size) or high < low:
        return [OUT_OF_RANGE]
    return turned(first_landing(start, step, low, high, table.size), start, step, table.size)


def turned(count, start, step, size):
    """The answer when a word has stepped count times; None stands for never."""
    if count is None:
        return [0]
    return [1, count, (start + count * step) % size]


def chain(table, numbers):
    place = numbers[0]
    words = numbers[2:]
    if not are_chains([place]):
        return [NO_CHAIN]
    # Noughts at the end count here: more than 8 numbers are refused, whatever they are.
    if len(words) < 1 or len(words) > LONGEST or not are_words(words, table.size):
        return [OUT_OF_RANGE]
    return stored(table, place, words)


def stored(table, place, words):
    if not table.put(place, words):
        return [TOO_LONG]
    return shown(table, place)


def shown(table, place):
    words = table.words_of(place)
    return [len(words)] + words


def shows(table, numbers):
    if not are_chains(numbers):
        return [NO_CHAIN]
    return shown(table, numbers[0])


def at(table, numbers):
    if not are_chains(numbers[:1]):
        return [NO_CHAIN]
    return [word_after(table.words_of(numbers[0]), numbers[1], table.size)]


def sum_of(table, numbers):
    if not are_chains(numbers[:1]):
        return [NO_CHAIN]
    return [sum_before(table.words_of(numbers[0]), numbers[1], table.size)]


def plus(table, numbers):
    return put_together(table, numbers, 1)


def less(table, numbers):
    return put_together(table, numbers, -1)


def put_together(table, numbers, sign):
    if not are_chains(numbers):
        return [NO_CHAIN]
    first = table.words_of(numbers[1])
    second = table.words_of(numbers[2])
    return stored(table, numbers[0], combined(first, second, sign, table.size))


def times(table, numbers):
    if not are_chains(numbers):
        return [NO_CHAIN]
    first = table.words_of(numbers[1])
    second = table.words_of(numbers[2])
    return stored(table, numbers[0], product(first, second, table.size))


def ahead(table, numbers):
    if not are_chains(numbers[:2]):
        return [NO_CHAIN]
    return stored(table, numbers[0], moved(table.words_of(numbers[1]), numbers[2], table.size))


def every(table, numbers):
    if not are_chains(numbers[:2]):
        return [NO_CHAIN]
    return stored(table, numbers[0], thinned(table.words_of(numbers[1]), numbers[2], table.size))


def sums(table, numbers):
    if not are_chains(numbers):
        return [NO_CHAIN]
    return stored(table, numbers[0], with_sums(table.words_of(numbers[1])))


def period(table, numbers):
    if not are_chains(numbers):
        return [NO_CHAIN]
    return [period_of(table.words_of(numbers[0]), table.size)]


def same(table, numbers):
    if not are_chains(numbers):
        return [NO_CHAIN]
    # No two chains without noughts at the end have the same words after each number of turns.
    return [1 if table.words_of(numbers[0]) == table.words_of(numbers[1]) else 0]


def after(table, numbers):
    relation = numbers[1]
    loop = numbers[2:]
    if relation > LAST_RELATION:
        return [NO_RELATION]
    if not are_chains(numbers[:1]):
        return [NO_CHAIN]
    if not are_words(loop, table.size):
        return [OUT_OF_RANGE]
    count = loop_turns(relation, loop[0], loop[1], loop[2], table.size)
    if count is None:
        return [0]
    return [1, word_after(table.words_of(numbers[0]), count, table.size)]


def are_rows(numbers):
    """Whether both steps and how many places there are, the second, fourth and fifth number, are let."""
    return all([1 <= number <= GREATEST_OF_ROWS for number in (numbers[1], numbers[3], numbers[4])])


def meets(table, numbers):
    if not are_rows(numbers):
        return [OUT_OF_RANGE]
    found = meetings(numbers[0], numbers[1], numbers[2], numbers[3], numbers[4])
    if found is None:
        return [0]
    return list(found)


def apart(table, numbers):
    if not are_rows(numbers):
        return [OUT_OF_RANGE]
    distance = least_apart(numbers[0], numbers[1], numbers[2], numbers[3], numbers[4])
    if distance is None:
        return [NO_PAIR]
    return [distance]


# By a call's number: what answers it, and how many numbers it has ahead of any row.
ANSWERED_BY = (
    width, turns, lands, chain, shows, at, sum_of, plus, less,
    times, ahead, every, sums, period, same, after, meets, apart,
)
PLAIN_NUMBERS = (1, 4, 4, 1, 1, 2, 2, 3, 3, 3, 3, 3, 2, 1, 2, 5, 5, 5)


def end_of_call(calls, begin):
    """The place behind the call that begins there."""
    number = calls[begin]
    end = begin + 1 + PLAIN_NUMBERS[number]
    if number == CHAIN:
        return end + 1 + calls[end]
    return end


def answers(calls):
    """For each call, in order: how many numbers are answered, then these."""
    table = Table()
    given = []
    begin = 0
    while begin < len(calls):
        end = end_of_call(calls, begin)
        answer = ANSWERED_BY[calls[begin]](table, calls[begin + 1:end])
        given.append(len(answer))
        given.extend(answer)
        begin = end
    return given
