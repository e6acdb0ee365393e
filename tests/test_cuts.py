"""Letters cut into words: ways, head."""

import itertools
import unittest

from tests import model
from tests.asking import LARGEST, add, adds, ask, ask_last, ask_many, have, head, made_words, out, pack, ways

EIGHT = (1, 2, 3, 4, 5, 6, 7, 8)
WORDS = [(1,), (1, 2), (2, 3), (3,), EIGHT]
ONES = [(1,) * n for n in range(1, 9)]


def fibonacci(many):
    """In how many ways so many letters are cut into parts of one and of two."""
    one, other = 1, 1
    for k in range(many):
        one, other = other, one + other
    return one


def up_to_eight(many):
    """In how many ways so many letters are cut into parts of one to eight."""
    told = [1, 1]
    while len(told) <= many:
        told.append(2 * told[-1] - (told[-9] if len(told) >= 9 else 0))
    return told[many]


class Ways(unittest.TestCase):
    def expect(self, letters, told):
        self.assertEqual(ask_last(*adds(2, WORDS), ways(2, *letters)), [told], letters)

    def test_no_letters_are_cut_in_one_way(self):
        self.expect((), 1)
        self.assertEqual(ask(ways(1), add(1, 1), out(1, 1), ways(1), ways(4)), [[1], [1], [0], [1], [1]])

    def test_in_no_way(self):
        self.expect((2,), 0)
        self.expect((1, 2, 2), 0)
        self.expect((2, 1), 0)
        self.expect((4,), 0)
        self.expect((1, 3, 2), 0)
        self.expect(EIGHT[:7], 0)
        self.expect(EIGHT + (2,), 0)
        self.expect((4,) + EIGHT, 0)

    def test_in_one_way(self):
        self.expect((1,), 1)
        self.expect((1, 2), 1)
        self.expect((1, 1, 1), 1)
        self.expect((3, 1, 3), 1)
        self.expect(EIGHT, 1)
        self.expect(EIGHT * 5, 1)
        self.expect((1,) + EIGHT + (3,), 1)

    def test_in_several_ways(self):
        self.expect((1, 2, 3), 2)
        self.expect((1, 2, 3, 1, 2, 3), 4)
        self.expect((1, 2, 3) * 13, 2 ** 13)

    def test_the_order_of_the_words_is_a_way_of_its_own(self):
        self.assertEqual(ask_last(*adds(1, [(1,), (1, 1)]), ways(1, 1, 1, 1)), [3])

    def test_in_very_many_ways(self):
        told = ask(*adds(1, [(1,), (1, 1)]), ways(1, *[1] * 10), ways(1, *[1] * 40), ways(1, *[1] * 39))
        self.assertEqual(told[2:], [[89], [165580141], [102334155]])
        told = ask(*adds(1, ONES), *[ways(1, *[1] * n) for n in (8, 9, 10)], ways(1, *[1] * 40))
        self.assertEqual(told[8:], [[128], [255], [509], [514946659144]])

    def test_each_count_of_letters(self):
        calls = [ways(1, *[1] * n) for n in range(41)]
        self.assertEqual(ask_many(calls, before=adds(1, [(1,), (1, 1)])), [[fibonacci(n)] for n in range(41)])
        self.assertEqual(ask_many(calls, before=adds(1, ONES)), [[up_to_eight(n)] for n in range(41)])

    def test_words_that_are_longer_than_the_letters(self):
        told = ask(*adds(1, ONES[2:]), *[ways(1, *[1] * n) for n in range(7)])
        self.assertEqual(told[6:], [[1], [0], [0], [1], [1], [1], [2]])

    def test_a_dictionary_without_words(self):
        self.assertEqual(ask(ways(1, 1), ways(3, 0), ways(3, *[1] * 40)), [[0], [0], [0]])

    def test_numbers_that_are_no_letters(self):
        for number in (0, 27, LARGEST):
            for letters in ((number,), (1, number), (number, 1), (1, number, 1), (number,) * 40):
                self.expect(letters, 0)

    def test_more_than_40_letters_are_refused(self):
        self.expect((1,) * 40, 1)
        for many in (41, 42, 60):
            self.expect((1,) * many, -1)
            self.expect((9,) * many, -1)
            self.expect((LARGEST,) * many, -1)
            self.assertEqual(ask(ways(1, *[1] * many)), [[-1]])


class Head(unittest.TestCase):
    def expect(self, letters, told):
        self.assertEqual(ask_last(*adds(3, WORDS), head(3, *letters)), [told], letters)

    def test_the_longest_word_that_is_a_beginning(self):
        self.expect((1,), 1)
        self.expect((1, 1), 1)
        self.expect((1, 2), 2)
        self.expect((1, 2, 3), 2)
        self.expect(EIGHT[:7], 2)
        self.expect(EIGHT, 8)
        self.expect(EIGHT + (1,), 8)
        self.expect(EIGHT * 5, 8)
        self.expect((2, 3, 9), 2)
        self.expect((3, 3), 1)

    def test_there_is_no_such_word(self):
        self.expect((), -3)
        self.expect((2,), -3)
        self.expect((2, 2, 3), -3)
        self.expect((4, 1), -3)
        self.expect((26,) * 40, -3)

    def test_words_that_are_longer_than_the_letters(self):
        told = ask(*adds(1, ONES[2:]), *[head(1, *[1] * n) for n in (0, 1, 2, 3, 8, 9, 40)])
        self.assertEqual(told[6:], [[-3], [-3], [-3], [3], [8], [8], [8]])

    def test_a_dictionary_without_words(self):
        self.assertEqual(ask(head(1), head(1, 1), add(1, 1), out(1, 1), head(1, 1)), [[-3], [-3], [1], [0], [-3]])

    def test_numbers_that_are_no_letters(self):
        for number in (0, 27, LARGEST):
            self.expect((number,), -3)
            self.expect((number, 1), -3)
            self.expect((1, number), 1)
            self.expect((1, 2, number), 2)
            self.expect((number,) * 40, -3)

    def test_more_than_40_letters_are_refused(self):
        self.expect((1,) * 40, 1)
        for many in (41, 42, 60):
            self.expect((1,) * many, -1)
            self.expect((9,) * many, -1)
            self.expect((LARGEST,) * many, -1)
            self.assertEqual(ask(head(1, *[1] * many)), [[-1]])


class Both(unittest.TestCase):
    def test_asking_changes_nothing(self):
        looks = [pack(1), ways(1, 1, 2, 3), head(1, 1, 2, 3), ways(1, *[1] * 41), head(1, *[1] * 41), head(1, 9)]
        told = ask(*adds(1, WORDS), *looks, *looks)
        self.assertEqual(told[5:11], told[11:])
        self.assertEqual(told[6:11], [[2], [2], [-1], [-1], [-3]])

    def test_no_dictionary_is_refused(self):
        for d in (0, 5, LARGEST):
            told = ask(*adds(1, WORDS), *[call(d, *[1] * many) for call in (ways, head) for many in (0, 1, 40, 41)])
            self.assertEqual(told[5:], [[-1]] * 8)

    def test_each_dictionary_has_its_own_words(self):
        told = ask(add(1, 1), *[call(d, 1) for d in (1, 2, 3, 4) for call in (ways, head)])
        self.assertEqual(told[1:], [[1], [1]] + [[0], [-3]] * 3)

    def hold(self, words, rows):
        calls = [call(1, *letters) for letters in rows for call in (ways, head)]
        expected = [[told] for letters in rows for told in (model.ways(words, letters), model.head(words, letters))]
        self.assertEqual(ask_many(calls, before=[have(1, words)]), expected, words)

    def test_against_the_definitions(self):
        for seed in range(20):
            rows = [letters for n in range(6) for letters in itertools.product((1, 2), repeat=n)]
            self.hold(made_words(seed, 4 + seed % 5, (1, 2), 3), rows)
            self.hold(made_words(seed, 8, (1, 2), 3), made_words(seed + 50, 20, (1, 2), 14))
            self.hold(made_words(seed, 60, (1, 2, 3), 8), made_words(seed + 70, 20, (1, 2, 3), 12))


if __name__ == "__main__":
    unittest.main()
