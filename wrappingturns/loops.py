"""When a word that steps and wraps comes to a range for the first time, and when a loop ends."""

LAST_RELATION = 8

# The relations with signs, each with the one that it is when no word has a sign.
WITHOUT_SIGNS = {5: 0, 6: 1, 7: 3, 8: 4}


def first_multiple(step, size, low, high):
    """The least k for which k * step modulo size is from low to high, or None.

    step is below size, and 0 < low <= high < size, so that k is never 0.
    """
    if step == 0:
        return None
    if 2 * step > size:
        # Walking backwards keeps the step at half the size or less, so few rounds are left.
        return first_multiple(size - step, size, size - high, size - low)
    count = rounded_up(low, step)
    if count * step <= high:
        return count
    # The range lies between two multiples of step, so the word passes over it until it has
    # wrapped often enough. The least number of wraps is the same question modulo step.
    wraps = first_multiple(-size % step, step, low % step, high % step)
    if wraps is None:
        return None
    return rounded_up(low + wraps * size, step)


def rounded_up(number, divisor):
    return (number + divisor - 1) // divisor


def first_landing(start, step, low, high, size):
    """After how many turns the word is from low to high for the first time, or None."""
    if low <= start <= high:
        return 0
    # As start is outside, 0 is outside the moved range, which so does not wrap.
    return first_multiple(step, size, (low - start) % size, (high - start) % size)


def ending_words(relation, bound, size):
    """The least and the greatest word that end a loop without signs; none if the least is above."""
    if relation == 0:
        return (bound, size - 1)
    if relation == 1:
        return (bound + 1, size - 1)
    if relation == 2:
        return (bound, bound)
    if relation == 3:
        return (0, bound)
    return (0, bound - 1)


def loop_turns(relation, start, step, bound, size):
    """How often the loop turns, or None if it turns for ever."""
    if relation in WITHOUT_SIGNS:
        # Half the size further on, words without signs stand in the order of those with signs.
        half = size // 2
        return loop_turns(WITHOUT_SIGNS[relation], (start + half) % size, step, (bound + half) % size, size)
    ends = ending_words(relation, bound, size)
    if ends[0] > ends[1]:
        return None
    return first_landing(start, step, ends[0], ends[1], size)
