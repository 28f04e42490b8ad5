"""What the words of a chain are after many turns, without turning, and chains made of others."""


def word_after(words, turns, size):
    """The chain's first word after so many turns.

    The word at a place adds to the first one once for each choice of that many turns.
    """
    total = 0
    choices = 1
    for place, word in enumerate(words):
        total = total + choices * word
        choices = choices * (turns - place) // (place + 1)
    return total % size


def sum_before(words, turns, size):
    """The sum of the chain's words after 0, 1, ... and turns - 1 turns."""
    # A word ahead of the chain that begins with 0 grows by just these.
    return word_after([0] + words, turns, size)


def padded(words, length):
    return words + [0] * (length - len(words))


def combined(first, second, sign, size):
    """The words of first with those of second added sign times."""
    length = max(len(first), len(second))
    return [(one + sign * other) % size for one, other in zip(padded(first, length), padded(second, length))]
