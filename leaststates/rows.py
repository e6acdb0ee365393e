"""Reading a row of numbers that may be a dictionary's.

A state that a row tells is a pair: whether a word may end there, and its links; a link is a letter and the number
of the state to which it leads. Neither need be as a dictionary has them: the letter may be any number, and the state
may not be there.
"""


def cut_row(row):
    """The states that the row tells, in order; None if it ends in the middle of one."""
    states = []
    place = 0
    while place < len(row):
        behind = place + 1 + row[place] // 2 * 2
        if behind > len(row):
            return None
        links = [(row[k], row[k + 1]) for k in range(place + 1, behind, 2)]
        states.append((row[place] % 2 == 1, links))
        place = behind
    return states


def count_from(state, counts):
    """How many rows of letters lead on from the state to an end, if counts tells it of the states one letter on."""
    own = 1 if state[0] else 0
    return own + sum([counts[link[1]] for link in state[1] if link[1] < len(counts)])


def count_ends(states, longest):
    """For 0 to longest letters: of each state, how many rows of so many letters or fewer lead from it to an end.

    They are counted, not gone through: there may be far too many.
    """
    counts = [[count_from(state, []) for state in states]]
    for letters in range(longest):
        counts.append([count_from(state, counts[-1]) for state in states])
    return counts


def rows_that_end(states, counts):
    """Each row of letters that leads from the first state to an end and is no longer than counts goes."""
    found = []
    waiting = []
    if len(states) > 0:
        waiting.append(((), 0))
    while len(waiting) > 0:
        reached = waiting.pop()
        state = states[reached[1]]
        if state[0]:
            found.append(reached[0])
        left = len(counts) - 1 - len(reached[0])
        for link in state[1]:
            # Very many rows may lead to no end in time: only those that do are gone on with.
            if left > 0 and link[1] < len(states) and counts[left - 1][link[1]] > 0:
                waiting.append((reached[0] + (link[0],), link[1]))
    return found
