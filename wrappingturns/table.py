"""The table of chains that the calls of one list are about."""

from wrappingturns.words import size_of, without_end_noughts

CHAINS = 8
LONGEST = 8
FIRST_BITS = 8


def are_chains(numbers):
    return all([0 <= number < CHAINS for number in numbers])


class Table:
    """How many words there are, and eight chains of them."""

    def __init__(self):
        self.size = 0
        self.held = []
        self.begin(FIRST_BITS)

    def begin(self, bits):
        self.size = size_of(bits)
        self.held = [[0] for place in range(CHAINS)]

    def words_of(self, place):
        return list(self.held[place])

    def put(self, place, words):
        """Whether the chain fits; only then it is put."""
        kept = without_end_noughts(words)
        if len(kept) > LONGEST:
            return False
        self.held[place] = kept
        return True
