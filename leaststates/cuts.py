"""Rows that are cut into parts: a word as a pattern asks, and letters into words."""

ANY_LETTER = 0
ANY_LETTERS = 27
MOST_IN_PATTERN = 10


def is_pattern(row):
    return len(row) <= MOST_IN_PATTERN and all([sign <= ANY_LETTERS for sign in row])


def is_of_pattern(word, pattern):
    # The lengths, rising, of the word's beginnings that are of the pattern's numbers so far.
    lengths = [0]
    for sign in pattern:
        if len(lengths) == 0:
            return False
        if sign == ANY_LETTERS:
            lengths = list(range(lengths[0], len(word) + 1))
        else:
            within = [length for length in lengths if length < len(word)]
            lengths = [length + 1 for length in within if sign == ANY_LETTER or sign == word[length]]
    return len(word) in lengths


def count_cuts(words, row):
    """In how many ways the row can be cut into words, one behind another."""
    # By how many letters are cut so far; each way ends in a word, behind one of the ways told before.
    counts = [1]
    for behind in range(1, len(row) + 1):
        last = [word for word in words if row[:behind][-len(word):] == word]
        counts.append(sum([counts[behind - len(word)] for word in last]))
    return counts[-1]
