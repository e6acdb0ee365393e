"""The least automaton of a dictionary.

A state is told by its rests alone, a tuple of tuples of letters, the earliest first:
so beginnings with the same rests have the same state, and no two states are alike.
"""


def links_from(rests):
    """The letters that lead on from a state, rising, each with the rests of the state to which it leads."""
    behind = {}
    for rest in rests:
        if len(rest) > 0:
            behind.setdefault(rest[0], []).append(rest[1:])
    return [(letter, tuple(behind[letter])) for letter in sorted(behind)]


def may_end(rests):
    return () in rests


def rests_behind(words, row):
    """The state to which the row of letters leads; no rests at all, if it leads to none."""
    return tuple([word[len(row):] for word in words if word[:len(row)] == row])


def number_states(words):
    """All states of the words (which are in order) with their numbers, the lowest number first."""
    numbers = {}
    waiting = []
    if len(words) > 0:
        waiting.append(tuple(words))
    while len(waiting) > 0:
        rests = waiting.pop()
        # A state may have been met from a lower letter while it waited here.
        if rests not in numbers:
            numbers[rests] = len(numbers)
            # What is put in last is met first, so the lowest letter comes last.
            for link in reversed(links_from(rests)):
                waiting.append(link[1])
    return numbers


def count_links(numbers):
    """How many letters lead on from the states, of all of them together."""
    return sum([len(links_from(rests)) for rests in numbers])


def write_row(words):
    numbers = number_states(words)
    row = []
    for rests in numbers:
        links = links_from(rests)
        row.append(2 * len(links) + (1 if may_end(rests) else 0))
        for link in links:
            row.append(link[0])
            row.append(numbers[link[1]])
    return row
