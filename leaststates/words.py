"""Four dictionaries, and the calls about them.

A dictionary is a list of its words in order; a word is a tuple of its letters.
Python compares tuples just as the document orders words and rows of letters.
"""

from leaststates.states import count_links, number_states, write_row

DICTIONARIES = 4
MOST_WORDS = 60
MOST_LETTERS = 8
LAST_LETTER = 26

NOT_AS_TOLD = -1
NOT_THERE = -3
THERE_ALREADY = -4
TOO_MANY = -5


def is_word(row):
    if len(row) < 1 or len(row) > MOST_LETTERS:
        return False
    return all([letter >= 1 and letter <= LAST_LETTER for letter in row])


def count_earlier(words, row):
    return len([word for word in words if word < row])


def count_beginning(words, row):
    return len([word for word in words if word[:len(row)] == row])


def put_in(words, given):
    row = tuple(given)
    if not is_word(row):
        return [NOT_AS_TOLD]
    if row in words:
        return [THERE_ALREADY]
    if len(words) >= MOST_WORDS:
        return [TOO_MANY]
    words.insert(count_earlier(words, row), row)
    return [len(words)]


def take_out(words, given):
    row = tuple(given)
    if row not in words:
        return [NOT_THERE]
    words.remove(row)
    return [len(words)]


def tell_number(words, given):
    row = tuple(given)
    if row not in words:
        return [NOT_THERE]
    return [words.index(row)]


def tell_word(words, given):
    number = given[0]
    if number >= len(words):
        return [NOT_THERE]
    return [len(words[number])] + list(words[number])


def tell_begins(words, given):
    row = tuple(given)
    return [count_beginning(words, row), count_earlier(words, row)]


def tell_size(words, given):
    numbers = number_states(words)
    return [len(numbers), count_links(numbers), len(words)]


def tell_row(words, given):
    row = write_row(words)
    return [len(row)] + row


# By a call's number: what answers it, how many whole numbers stand behind the dictionary's, whether a row follows.
CALLS = (
    (put_in, 0, True),
    (take_out, 0, True),
    (tell_number, 0, True),
    (tell_word, 1, False),
    (tell_begins, 0, True),
    (tell_size, 0, False),
    (tell_row, 0, False),
)


class Reader:
    """Goes through a list of calls, which it leaves as it is."""

    def __init__(self, calls):
        self.calls = calls
        self.place = 0

    def has_more(self):
        return self.place < len(self.calls)

    def take_one(self):
        taken = self.calls[self.place]
        self.place = self.place + 1
        return taken

    def take_many(self, many):
        taken = self.calls[self.place:self.place + many]
        self.place = self.place + many
        return taken


def answer_one(dictionaries, reader):
    """The answer of the call at which the reader stands; the reader stands behind it then."""
    form = CALLS[reader.take_one()]
    dictionary = reader.take_one()
    given = reader.take_many(form[1])
    if form[2]:
        given = given + reader.take_many(reader.take_one())
    if dictionary < 1 or dictionary > DICTIONARIES:
        return [NOT_AS_TOLD]
    call = form[0]
    return call(dictionaries[dictionary - 1], given)


def answers(calls):
    """The answers of all calls, in order, each with how many numbers it has before it."""
    dictionaries = [[] for dictionary in range(DICTIONARIES)]
    reader = Reader(calls)
    told = []
    while reader.has_more():
        answer = answer_one(dictionaries, reader)
        told.append(len(answer))
        told.extend(answer)
    return told
