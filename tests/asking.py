"""Builds lists of calls and reads their answers, for the tests."""

from leaststates.words import answers

LARGEST = 4294967295


def add(d, *letters):
    return [0, d, len(letters), *letters]


def out(d, *letters):
    return [1, d, len(letters), *letters]


def number(d, *letters):
    return [2, d, len(letters), *letters]


def word(d, n):
    return [3, d, n]


def begins(d, *letters):
    return [4, d, len(letters), *letters]


def size(d):
    return [5, d]


def pack(d):
    return [6, d]


def one_list(calls):
    return [n for call in calls for n in call]


def ask(*calls):
    """The answer of each call, all of them asked in one list."""
    told = answers(one_list(calls))
    cut = []
    place = 0
    while place < len(told):
        behind = place + 1 + told[place]
        cut.append(told[place + 1:behind])
        place = behind
    return cut


def ask_last(*calls):
    return ask(*calls)[-1]


def adds(d, words):
    return [add(d, *letters) for letters in words]
