"""Builds lists of calls and reads their answers, for the tests."""

import contextlib
import signal

from leaststates.words import answers
from tests import model

LARGEST = 4294967295
MOST_CALLS = 40
MOST_NUMBERS = 30000
# How long the answers of one list may take at most; they take far less.
SECONDS = 4


def add(d, *letters):
    return [0, d, len(letters), *letters]


def out(d, *letters):
    return [1, d, len(letters), *letters]


def number(d, *letters):
    return [2, d, len(letters), *letters]


def word(d, n):
    return [3, d, n]


def begins(d, *letters):
    return [4, d, len(letters), *letters]


def size(d):
    return [5, d]


def pack(d):
    return [6, d]


def unpack(d, row):
    return [7, d, len(row), *row]


def state(d, *letters):
    return [8, d, len(letters), *letters]


def after(d, *letters):
    return [9, d, len(letters), *letters]


def join(k, a, b, c):
    return [10, k, a, b, c]


def fits(d, n, k, *pattern):
    return [11, d, n, k, len(pattern), *pattern]


def ways(d, *letters):
    return [12, d, len(letters), *letters]


def head(d, *letters):
    return [13, d, len(letters), *letters]


def one_list(calls):
    return [n for call in calls for n in call]


@contextlib.contextmanager
def in_time():
    """Fails where the program is at work for too long, instead of waiting for it."""
    def fail(*told):
        raise AssertionError("it takes too long")

    usual = signal.signal(signal.SIGVTALRM, fail)
    signal.setitimer(signal.ITIMER_VIRTUAL, SECONDS)
    try:
        yield
    finally:
        signal.setitimer(signal.ITIMER_VIRTUAL, 0)
        signal.signal(signal.SIGVTALRM, usual)


def ask(*calls):
    """The answer of each call, all of them asked in one list."""
    handed = one_list(calls)
    # Nothing else than the document tells is handed in.
    assert 1 <= len(calls) <= MOST_CALLS and len(handed) <= MOST_NUMBERS
    with in_time():
        told = answers(handed)
    cut = []
    place = 0
    while place < len(told):
        behind = place + 1 + told[place]
        cut.append(told[place + 1:behind])
        place = behind
    return cut


def ask_last(*calls):
    return ask(*calls)[-1]


def adds(d, words):
    return [add(d, *letters) for letters in words]


def have(d, words):
    """One call that gives d just these words, however many they are."""
    return unpack(d, model.row(words))


def ask_many(calls, before=()):
    """The answers of calls that may be very many, each asked behind the calls before."""
    told = []
    many = MOST_CALLS - len(before)
    for first in range(0, len(calls), many):
        told += ask(*before, *calls[first:first + many])[len(before):]
    return told


def made_words(seed, many, letters, longest):
    """Words that are different for each seed, and the same each time."""
    words = []
    turn = seed
    while len(words) < many:
        new = []
        turn = (turn * 1103515245 + 12345) % 2147483648
        for k in range(1 + (turn >> 16) % longest):
            turn = (turn * 1103515245 + 12345) % 2147483648
            new.append(letters[(turn >> 16) % len(letters)])
        if tuple(new) not in words:
            words.append(tuple(new))
    return words
