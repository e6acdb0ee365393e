"""Words of a pattern: fits."""

import itertools
import unittest

from tests import model
from tests.asking import LARGEST, adds, ask, ask_last, ask_many, fits, have, made_words, pack

ANY = 27
ONE = 0
EIGHT = (1, 2, 3, 4, 5, 6, 7, 8)
# Told in order: their numbers are 0 to 6.
WORDS = [(1,), (1, 1), (1, 2), EIGHT, (2, 1), (2, 1, 2), (26,)]
SIXTY = [(1 + n // 26, 1 + n % 26) for n in range(60)]
NO_PATTERNS = (
    (28,),
    (LARGEST,),
    (1, 28),
    (28, 1),
    (ANY, LARGEST),
    (ONE, 29, ONE),
    (ANY,) * 11,
    (ONE,) * 11,
    (1,) * 11,
    (ANY,) * 20,
    (28,) * 11,
    (LARGEST,) * 20,
    (1, 2, 3, 4, 5, 6, 7, 8, 9, 28),
)


class Patterns(unittest.TestCase):
    def expect(self, pattern, *numbers):
        told = ask_last(*adds(1, WORDS), fits(1, 0, LARGEST, *pattern))
        self.assertEqual(told, [len(numbers), len(numbers), *numbers], pattern)

    def test_no_numbers(self):
        self.expect(())

    def test_letters(self):
        self.expect((1,), 0)
        self.expect((1, 1), 1)
        self.expect((2, 1, 2), 5)
        self.expect(EIGHT, 3)
        self.expect((26,), 6)
        self.expect((2,))
        self.expect((1, 2, 3))
        self.expect(EIGHT + (9,))
        self.expect(EIGHT + (9, 10))

    def test_any_one_letter(self):
        self.expect((ONE,), 0, 6)
        self.expect((ONE, ONE), 1, 2, 4)
        self.expect((ONE, 1), 1, 4)
        self.expect((1, ONE), 1, 2)
        self.expect((ONE,) * 8, 3)
        self.expect((ONE,) * 9)
        self.expect((ONE,) * 10)
        self.expect((2, ONE, 2), 5)

    def test_any_letters(self):
        self.expect((ANY,), 0, 1, 2, 3, 4, 5, 6)
        self.expect((1, ANY), 0, 1, 2, 3)
        self.expect((ANY, 1), 0, 1, 4)
        self.expect((ANY, 2), 2, 5)
        self.expect((ANY, 2, ANY), 2, 3, 4, 5)
        self.expect((1, ANY, 1), 1)
        self.expect((1, ANY, 8), 3)
        self.expect((2, ANY, 2), 5)
        self.expect((ANY, 1, ANY, 1, ANY), 1)
        self.expect((ANY, 9, ANY))

    def test_any_letters_and_any_one_letter(self):
        self.expect((ANY, ONE), 0, 1, 2, 3, 4, 5, 6)
        self.expect((ONE, ANY, ONE), 1, 2, 3, 4, 5)
        self.expect((ONE, ONE, ONE, ANY), 3, 5)
        self.expect((ANY, ONE, 2), 2, 5)
        self.expect((ANY,) + (ONE,) * 8, 3)
        self.expect((ANY,) + (ONE,) * 9)

    def test_any_letters_several_times_behind_one_another(self):
        self.expect((ANY, ANY), 0, 1, 2, 3, 4, 5, 6)
        self.expect((ANY,) * 10, 0, 1, 2, 3, 4, 5, 6)
        self.expect((ANY, ANY, 1, ANY, ANY, 2, ANY, ANY), 2, 3, 5)
        self.expect((1, ANY, ANY, ANY, 1), 1)
        self.expect((1,) + (ANY,) * 9, 0, 1, 2, 3)

    def test_patterns_of_10_numbers(self):
        self.expect(EIGHT + (ANY, ANY), 3)
        self.expect((ANY, ANY) + EIGHT, 3)
        self.expect((ANY, 1, ANY, 2, ANY, 3, ANY, 4, ANY, 8), 3)
        self.expect((ANY, ONE) * 5, 3)
        self.expect((1,) * 10)


class WhatIsTold(unittest.TestCase):
    def expect(self, first, most, pattern, told):
        self.assertEqual(ask_last(*adds(4, WORDS), fits(4, first, most, *pattern)), told, (first, most, pattern))

    def test_words_of_number_n_or_above(self):
        self.expect(0, 9, (1, ANY), [4, 4, 0, 1, 2, 3])
        self.expect(1, 9, (1, ANY), [3, 3, 1, 2, 3])
        self.expect(3, 9, (1, ANY), [1, 1, 3])
        self.expect(4, 9, (1, ANY), [0, 0])

    def test_n_just_at_and_just_above_the_number_of_words(self):
        self.expect(6, 9, (ANY,), [1, 1, 6])
        self.expect(7, 9, (ANY,), [0, 0])
        self.expect(8, 9, (ANY,), [0, 0])
        self.expect(LARGEST, 9, (ANY,), [0, 0])
        self.expect(LARGEST, LARGEST, (ANY,), [0, 0])

    def test_the_first_k_are_told(self):
        self.expect(0, 0, (1, ANY), [4, 0])
        self.expect(0, 1, (1, ANY), [4, 1, 0])
        self.expect(0, 3, (1, ANY), [4, 3, 0, 1, 2])
        self.expect(0, 4, (1, ANY), [4, 4, 0, 1, 2, 3])
        self.expect(0, 5, (1, ANY), [4, 4, 0, 1, 2, 3])
        self.expect(0, LARGEST, (1, ANY), [4, 4, 0, 1, 2, 3])

    def test_k_just_at_and_just_above_the_number_of_words(self):
        self.expect(0, 6, (ANY,), [7, 6, 0, 1, 2, 3, 4, 5])
        self.expect(0, 7, (ANY,), [7, 7, 0, 1, 2, 3, 4, 5, 6])
        self.expect(0, 8, (ANY,), [7, 7, 0, 1, 2, 3, 4, 5, 6])

    def test_both_at_once(self):
        self.expect(1, 2, (1, ANY), [3, 2, 1, 2])
        self.expect(2, 1, (ANY, 2, ANY), [4, 1, 2])
        self.expect(6, 0, (ANY,), [1, 0])
        self.expect(7, 0, (ANY,), [0, 0])

    def test_a_dictionary_without_words(self):
        told = ask(fits(1, 0, 0), fits(1, 0, 9, ANY), fits(1, LARGEST, LARGEST, ANY), fits(1, 0, 9, ONE), fits(1, 1, 1, 1))
        self.assertEqual(told, [[0, 0]] * 5)

    def test_60_words(self):
        told = ask(have(1, SIXTY), *[fits(1, n, k, ANY) for n in (0, 59, 60) for k in (0, 59, 60, 61)])
        all_of_them = [[60, 0], [60, 59, *range(59)], [60, 60, *range(60)], [60, 60, *range(60)]]
        self.assertEqual(told[1:], all_of_them + [[1, 0]] + [[1, 1, 59]] * 3 + [[0, 0]] * 4)

    def test_each_dictionary_has_its_own_words(self):
        told = ask(have(1, [(1,)]), have(3, [(1,), (2,)]), *[fits(d, 0, 9, ANY) for d in (1, 2, 3, 4)])
        self.assertEqual(told[2:], [[1, 1, 0], [0, 0], [2, 2, 0, 1], [0, 0]])


class Refusals(unittest.TestCase):
    def test_no_pattern(self):
        for pattern, n, k in itertools.product(NO_PATTERNS, (0, LARGEST), (0, LARGEST)):
            with self.subTest(pattern=pattern, n=n, k=k):
                told = ask(*adds(1, WORDS), pack(1), fits(1, n, k, *pattern), fits(2, n, k, *pattern), pack(1))
                self.assertEqual(told[8:10], [[-1], [-1]])
                self.assertEqual(told[10], told[7])

    def test_no_dictionary(self):
        for d, pattern in itertools.product((0, 5, LARGEST), ((), (ANY,), (28,), (1,) * 20)):
            self.assertEqual(ask_last(*adds(1, WORDS), fits(d, 0, 9, *pattern)), [-1])


class AgainstTheDefinitions(unittest.TestCase):
    def hold(self, words, patterns):
        calls = [fits(1, 0, LARGEST, *pattern) for pattern in patterns]
        expected = [model.fits(words, 0, LARGEST, pattern) for pattern in patterns]
        self.assertEqual(ask_many(calls, before=[have(1, words)]), expected)

    def test_all_short_patterns(self):
        signs = (0, 1, 2, 27)
        patterns = [pattern for n in range(5) for pattern in itertools.product(signs, repeat=n)]
        self.hold([letters for n in (1, 2, 3, 4) for letters in itertools.product((1, 2), repeat=n)], patterns)

    def test_longer_patterns(self):
        for seed in range(15):
            words = made_words(seed, 20, (1, 2), 8)
            self.hold(words, made_words(seed + 50, 20, (0, 1, 2, 27, 27, 27), 10))
            self.hold(words, made_words(seed + 90, 20, (0, 1, 2, 27), 6))


if __name__ == "__main__":
    unittest.main()
