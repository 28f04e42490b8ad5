"""Words: whole numbers from 0 to below a size, which is a power of two."""


def size_of(bits):
    """How many words there are with so many bits."""
    size = 1
    for bit in range(bits):
        size = size * 2
    return size


def are_words(numbers, size):
    return all([0 <= number < size for number in numbers])


def without_end_noughts(words):
    """The words up to the last one that isn't 0; of nothing but noughts one stays."""
    length = len(words)
    while length > 1 and words[length - 1] == 0:
        length = length - 1
    return words[:length]
