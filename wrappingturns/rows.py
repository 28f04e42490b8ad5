"""In which turns two rows of places, whole numbers that don't wrap, meet."""

from wrappingturns.loops import first_landing, rounded_up


def common_divisor(first, second):
    """The greatest number that divides both."""
    while second > 0:
        rest = first % second
        first = second
        second = rest
    return first


def meetings(start, step, other_start, other_step, length):
    """In how many pairs of turns the rows meet, then the pair with the least j: j, k; or None."""
    # Modulo the other row's step, all of its places are one word that the first row must land on.
    wanted = other_start % other_step
    j = first_landing(start % other_step, step % other_step, wanted, wanted, other_step)
    if j is None:
        return None
    k = (start + j * step - other_start) // other_step
    divisor = common_divisor(step, other_step)
    between_j = other_step // divisor
    between_k = step // divisor
    if k < 0:
        # These meetings lie ahead of the other row's begin, where it has no places.
        missing = rounded_up(-k, between_k)
        j = j + missing * between_j
        k = k + missing * between_k
    if j >= length or k >= length:
        return None
    more = min((length - 1 - j) // between_j, (length - 1 - k) // between_k)
    return (1 + more, j, k)


def least_apart(start, step, other_start, other_step, length):
    """The least k - j that isn't below 0, of all pairs in which the rows meet, or None."""
    found = meetings(start, step, other_start, other_step, length)
    if found is None:
        return None
    growth = (step - other_step) // common_divisor(step, other_step)
    return least_not_below_nought(found[2] - found[1], growth, found[0])


def least_not_below_nought(first, growth, count):
    """The least of first, first + growth, ... (count of them) that isn't below 0, or None."""
    if first >= 0 and growth >= 0:
        return first
    if first >= 0:
        return first + growth * min(count - 1, first // -growth)
    if growth <= 0:
        return None
    needed = rounded_up(-first, growth)
    if needed >= count:
        return None
    return first + growth * needed
