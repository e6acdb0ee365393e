"""The document's definitions taken word by word, as slow as they come: what the program is held against."""


def is_earlier(one, other):
    for a, b in zip(one, other):
        if a != b:
            return a < b
    return len(one) < len(other)


def in_order(words):
    ordered = []
    for new in words:
        place = sum(1 for old in ordered if is_earlier(old, new))
        ordered.insert(place, new)
    return ordered


def beginnings(words):
    return {word[:n] for word in words for n in range(len(word) + 1)}


def rests(words, beginning):
    n = len(beginning)
    return frozenset(word[n:] for word in words if word[:n] == beginning)


def states(words):
    """For each state, in the order in which they're met: whether a word may end there, and letter -> state."""
    known = beginnings(words)
    numbers = {}
    told = []

    def meet(beginning):
        own = rests(words, beginning)
        if own not in numbers:
            numbers[own] = len(told)
            leads = {}
            told.append((() in own, leads))
            for letter in range(1, 27):
                if beginning + (letter,) in known:
                    leads[letter] = meet(beginning + (letter,))
        return numbers[own]

    if words:
        meet(())
    return told


def row(words):
    numbers = []
    for ends, leads in states(words):
        numbers.append(2 * len(leads) + (1 if ends else 0))
        for letter in sorted(leads):
            numbers += [letter, leads[letter]]
    return numbers


def size(words):
    told = states(words)
    return [len(told), sum(len(leads) for ends, leads in told), len(words)]


def begins(words, letters):
    return [
        sum(1 for word in words if word[:len(letters)] == letters),
        sum(1 for word in words if is_earlier(word, letters)),
    ]


def lead(words, letters):
    """The number of the state to which the letters lead; None if they lead to none."""
    told = states(words)
    if not told:
        return None
    reached = 0
    for letter in letters:
        reached = told[reached][1].get(letter)
        if reached is None:
            return None
    return reached


def after(words, letters):
    ends, leads = states(words)[lead(words, letters)]
    return [1 if ends else 0, len(leads), *sorted(leads)]


def cut(row):
    """The states that a row tells, as (whether a word may end there, letters with states); None if it's cut off."""
    told = []
    left = list(row)
    while left:
        many = left.pop(0)
        if len(left) < many // 2 * 2:
            return None
        told.append((many % 2 == 1, [(left.pop(0), left.pop(0)) for k in range(many // 2)]))
    return told


def count_ends(told, reached=0, longest=8):
    """How many rows of 0 to 8 letters lead to an end, each of them gone through."""
    if reached >= len(told):
        return 0
    ends, links = told[reached]
    count = 1 if ends else 0
    if longest > 0:
        for letter, behind in links:
            count += count_ends(told, behind, longest - 1)
    return count


def is_as_written(told):
    """Whether the states are a dictionary's, each thing asked of them by itself."""
    met = []

    def meet(number):
        if number in met:
            return
        met.append(number)
        for letter, behind in told[number][1]:
            meet(behind)

    def words_from(number, longest):
        """The rests of a state; None if one is too long, or if it leads on without an end."""
        found = {()} if told[number][0] else set()
        for letter, behind in told[number][1]:
            further = words_from(behind, longest - 1) if longest > 0 else None
            if further is None:
                return None
            found |= {(letter,) + rest for rest in further}
        return found

    if not told:
        return True
    for ends, links in told:
        letters = [letter for letter, behind in links]
        if letters != sorted(set(letters)) or any(letter not in range(1, 27) for letter in letters):
            return False
        if any(behind >= len(told) for letter, behind in links):
            return False
    meet(0)
    found = [words_from(number, 8) for number in range(len(told))]
    if met != list(range(len(told))) or None in found or set() in found or () in found[0]:
        return False
    return all(found.count(one) == 1 for one in found)


def unpack(row):
    """What unpack answers."""
    told = cut(row)
    if len(row) > 2000 or told is None:
        return [-1]
    count = count_ends(told)
    if count > 60:
        return [-5]
    return [count] if is_as_written(told) else [-7]


def stands_for(sign, part):
    if sign == 27:
        return True
    return len(part) == 1 and sign in (0, part[0])


def is_of(word, pattern):
    if not pattern:
        return not word
    return any(
        stands_for(pattern[0], word[:n]) and is_of(word[n:], pattern[1:]) for n in range(len(word) + 1)
    )


def fits(words, first, most, pattern):
    found = [n for n, word in enumerate(in_order(words)) if n >= first and is_of(word, pattern)]
    return [len(found), min(most, len(found)), *found[:most]]


def ways(words, letters):
    if not letters:
        return 1
    return sum(ways(words, letters[len(word):]) for word in words if letters[:len(word)] == word)


def head(words, letters):
    lengths = [n for n in range(len(letters) + 1) if letters[:n] in words]
    return lengths[-1] if lengths else -3


def join(k, one, other):
    kept = (
        lambda word: word in one or word in other,
        lambda word: word in one and word in other,
        lambda word: word in one and word not in other,
        lambda word: (word in one) != (word in other),
    )[k]
    return [word for word in in_order(set(one) | set(other)) if kept(word)]
