"""Four dictionaries, and the calls about them.

A dictionary is a list of its words in order; a word is a tuple of its letters.
Python compares tuples just as the document orders words and rows of letters.
"""

from leaststates.cuts import count_cuts, is_of_pattern, is_pattern
from leaststates.rows import count_ends, cut_row, rows_that_end
from leaststates.states import count_links, links_from, may_end, number_states, rests_behind, write_row

DICTIONARIES = 4
MOST_WORDS = 60
MOST_LETTERS = 8
LAST_LETTER = 26
MOST_IN_ROW = 2000
MOST_TO_CUT = 40

NOT_AS_TOLD = -1
NOT_THERE = -3
THERE_ALREADY = -4
TOO_MANY = -5
NO_SUCH_ROW = -7

IN_EITHER = 0
IN_BOTH = 1
IN_FIRST_ALONE = 2
IN_ONE_ALONE = 3


def is_word(row):
    if len(row) < 1 or len(row) > MOST_LETTERS:
        return False
    return all([letter >= 1 and letter <= LAST_LETTER for letter in row])


def count_earlier(words, row):
    return len([word for word in words if word < row])


def count_beginning(words, row):
    return len([word for word in words if word[:len(row)] == row])


def put_in(words, given):
    row = tuple(given)
    if not is_word(row):
        return [NOT_AS_TOLD]
    if row in words:
        return [THERE_ALREADY]
    if len(words) >= MOST_WORDS:
        return [TOO_MANY]
    words.insert(count_earlier(words, row), row)
    return [len(words)]


def take_out(words, given):
    row = tuple(given)
    if row not in words:
        return [NOT_THERE]
    words.remove(row)
    return [len(words)]


def tell_number(words, given):
    row = tuple(given)
    if row not in words:
        return [NOT_THERE]
    return [words.index(row)]


def tell_word(words, given):
    number = given[0]
    if number >= len(words):
        return [NOT_THERE]
    return [len(words[number])] + list(words[number])


def tell_begins(words, given):
    row = tuple(given)
    return [count_beginning(words, row), count_earlier(words, row)]


def tell_size(words, given):
    numbers = number_states(words)
    return [len(numbers), count_links(numbers), len(words)]


def tell_row(words, given):
    row = write_row(words)
    return [len(row)] + row


def set_words(words, new):
    words.clear()
    words.extend(new)
    return [len(words)]


def read_row(words, given):
    states = cut_row(given)
    if len(given) > MOST_IN_ROW or states is None:
        return [NOT_AS_TOLD]
    counts = count_ends(states, MOST_LETTERS)
    if len(states) > 0 and counts[MOST_LETTERS][0] > MOST_WORDS:
        return [TOO_MANY]
    told = sorted(set(rows_that_end(states, counts)))
    # If it is any dictionary's row, it is that of these words; so it is one just if they would be written so.
    if not all([is_word(row) for row in told]) or write_row(told) != given:
        return [NO_SUCH_ROW]
    return set_words(words, told)


def tell_state(words, given):
    rests = rests_behind(words, tuple(given))
    if len(rests) == 0:
        return [NOT_THERE]
    return [number_states(words)[rests]]


def tell_after(words, given):
    rests = rests_behind(words, tuple(given))
    if len(rests) == 0:
        return [NOT_THERE]
    letters = [link[0] for link in links_from(rests)]
    return [1 if may_end(rests) else 0, len(letters)] + letters


def tell_fits(words, given):
    first = given[0]
    most = given[1]
    pattern = given[2:]
    if not is_pattern(pattern):
        return [NOT_AS_TOLD]
    found = [number for number in range(first, len(words)) if is_of_pattern(words[number], pattern)]
    told = found[:most]
    return [len(found), len(told)] + told


def tell_ways(words, given):
    if len(given) > MOST_TO_CUT:
        return [NOT_AS_TOLD]
    return [count_cuts(words, tuple(given))]


def tell_head(words, given):
    row = tuple(given)
    if len(row) > MOST_TO_CUT:
        return [NOT_AS_TOLD]
    lengths = [len(word) for word in words if row[:len(word)] == word]
    if len(lengths) == 0:
        return [NOT_THERE]
    return [max(lengths)]


def join_in_way(way, one, other):
    """The words of two dictionaries that are asked for, in order."""
    if way == IN_EITHER:
        return sorted(set(one) | set(other))
    if way == IN_BOTH:
        return sorted(set(one) & set(other))
    if way == IN_FIRST_ALONE:
        return sorted(set(one) - set(other))
    return sorted(set(one) ^ set(other))


def has_dictionary(number):
    return number >= 1 and number <= DICTIONARIES


def join_two(dictionaries, given):
    way = given[0]
    chosen = given[1:]
    if way > IN_ONE_ALONE or not all([has_dictionary(number) for number in chosen]):
        return [NOT_AS_TOLD]
    joined = join_in_way(way, dictionaries[chosen[0] - 1], dictionaries[chosen[1] - 1])
    if len(joined) > MOST_WORDS:
        return [TOO_MANY]
    return set_words(dictionaries[chosen[2] - 1], joined)


# By a call's number: what answers it, how many whole numbers stand behind the dictionary's, whether a row follows.
CALLS = {
    0: (put_in, 0, True),
    1: (take_out, 0, True),
    2: (tell_number, 0, True),
    3: (tell_word, 1, False),
    4: (tell_begins, 0, True),
    5: (tell_size, 0, False),
    6: (tell_row, 0, False),
    7: (read_row, 0, True),
    8: (tell_state, 0, True),
    9: (tell_after, 0, True),
    11: (tell_fits, 2, True),
    12: (tell_ways, 0, True),
    13: (tell_head, 0, True),
}
# This call is not among those: it alone is about more than one dictionary.
JOIN = 10


class Reader:
    """Goes through a list of calls, which it leaves as it is."""

    def __init__(self, calls):
        self.calls = calls
        self.place = 0

    def has_more(self):
        return self.place < len(self.calls)

    def take_one(self):
        taken = self.calls[self.place]
        self.place = self.place + 1
        return taken

    def take_many(self, many):
        taken = self.calls[self.place:self.place + many]
        self.place = self.place + many
        return taken


def answer_one(dictionaries, reader):
    """The answer of the call at which the reader stands; the reader stands behind it then."""
    number = reader.take_one()
    if number == JOIN:
        return join_two(dictionaries, reader.take_many(4))
    form = CALLS[number]
    dictionary = reader.take_one()
    given = reader.take_many(form[1])
    if form[2]:
        given = given + reader.take_many(reader.take_one())
    if not has_dictionary(dictionary):
        return [NOT_AS_TOLD]
    call = form[0]
    return call(dictionaries[dictionary - 1], given)


def answers(calls):
    """The answers of all calls, in order, each with how many numbers it has before it."""
    dictionaries = [[] for dictionary in range(DICTIONARIES)]
    reader = Reader(calls)
    told = []
    while reader.has_more():
        answer = answer_one(dictionaries, reader)
        told.append(len(answer))
        told.extend(answer)
    return told
