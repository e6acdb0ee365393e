"""The document's definitions taken word by word, as slow as they come: what the program is held against."""


def is_earlier(one, other):
    for a, b in zip(one, other):
        if a != b:
            return a < b
    return len(one) < len(other)


def in_order(words):
    ordered = []
    for new in words:
        place = sum(1 for old in ordered if is_earlier(old, new))
        ordered.insert(place, new)
    return ordered


def beginnings(words):
    return {word[:n] for word in words for n in range(len(word) + 1)}


def rests(words, beginning):
    n = len(beginning)
    return frozenset(word[n:] for word in words if word[:n] == beginning)


def states(words):
    """For each state, in the order in which they're met: whether a word may end there, and letter -> state."""
    known = beginnings(words)
    numbers = {}
    told = []

    def meet(beginning):
        own = rests(words, beginning)
        if own not in numbers:
            numbers[own] = len(told)
            leads = {}
            told.append((() in own, leads))
            for letter in range(1, 27):
                if beginning + (letter,) in known:
                    leads[letter] = meet(beginning + (letter,))
        return numbers[own]

    if words:
        meet(())
    return told


def row(words):
    numbers = []
    for ends, leads in states(words):
        numbers.append(2 * len(leads) + (1 if ends else 0))
        for letter in sorted(leads):
            numbers += [letter, leads[letter]]
    return numbers


def size(words):
    told = states(words)
    return [len(told), sum(len(leads) for ends, leads in told), len(words)]


def begins(words, letters):
    return [
        sum(1 for word in words if word[:len(letters)] == letters),
        sum(1 for word in words if is_earlier(word, letters)),
    ]
