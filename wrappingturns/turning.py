"""What the words of a chain are after many turns, without turning, and chains made of others."""


def word_after(words, turns, size):
    """The chain's first word after so many turns.

    The word at a place adds to the first one once for each choice of that many turns.
    """
    total = 0
    choices = 1
    for place, word in enumerate(words):
        total = total + choices * word
        choices = choices * (turns - place) // (place + 1)
    return total % size


def with_sums(words):
    """The chain whose word after each number of turns is the sum of the given one's words ahead of it."""
    # A word ahead of the chain that begins with 0 grows by just these.
    return [0] + words


def sum_before(words, turns, size):
    """The sum of the chain's words after 0, 1, ... and turns - 1 turns."""
    return word_after(with_sums(words), turns, size)


def padded(words, length):
    return words + [0] * (length - len(words))


def combined(first, second, sign, size):
    """The words of first with those of second added sign times."""
    length = max(len(first), len(second))
    return [(one + sign * other) % size for one, other in zip(padded(first, length), padded(second, length))]


def chain_by_words(first_words, size):
    """The chain whose words after 0, 1, 2, ... turns begin so, and that has no more words than these."""
    found = []
    row = first_words
    while len(row) > 0:
        found.append(row[0])
        # What each word grows by in a turn is the word behind it in the chain.
        row = [(later - now) % size for now, later in zip(row, row[1:])]
    return found


def product(first, second, size):
    """The chain whose words are those of first times those of second."""
    # Choices of i and of j turns, multiplied, are made up of choices of at most i + j turns.
    length = len(first) + len(second) - 1
    words = [word_after(first, turns, size) * word_after(second, turns, size) % size for turns in range(length)]
    return chain_by_words(words, size)


def moved(words, turns, size):
    """All words of the chain after so many turns."""
    return [word_after(words[place:], turns, size) for place in range(len(words))]


def thinned(words, turns, size):
    """The chain that turns once while the given one turns so often."""
    first_words = [word_after(words, count * turns, size) for count in range(len(words))]
    return chain_by_words(first_words, size)


def period_of(words, size):
    """The least number of turns from 1 on after which all words are what they were."""
    # 4 * size turns bring all back, as the choices of 1 to 7 of them are noughts modulo size. What brings all
    # back first divides 4 * size, and so is a power of two.
    turns = 1
    while moved(words, turns, size) != words:
        turns = turns * 2
    return turns
