"""The states to which letters lead: state, after."""

import itertools
import unittest

from tests import model
from tests.asking import (
    LARGEST, add, adds, after, ask, ask_last, ask_many, begins, have, made_words, out, pack, size, state,
)

EIGHT = (1, 2, 3, 4, 5, 6, 7, 8)
WORDS = [(1, 2), (1, 2, 3), (3, 2), (26,), EIGHT]
# Letters that lead to no state of these words.
LEAD_NOWHERE = (
    (2,),
    (1, 1),
    (1, 2, 4),
    (1, 2, 3, 5),
    (26, 1),
    (3, 2, 1),
    EIGHT + (1,),
    EIGHT + (8,),
    (1,) * 60,
    (26,) * 60,
    (0,),
    (27,),
    (LARGEST,),
    (1, 0),
    (1, 27),
    (0, 1),
    (1, 2, LARGEST),
    (0,) * 60,
)


class State(unittest.TestCase):
    def expect(self, letters, told):
        self.assertEqual(ask_last(*adds(2, WORDS), state(2, *letters)), [told], letters)

    def test_no_letters_lead_to_the_first_state(self):
        self.expect((), 0)

    def test_letters_that_are_a_word_and_that_are_none(self):
        self.expect((1,), 1)
        self.expect((1, 2), 2)
        self.expect((1, 2, 3), 3)
        self.expect((1, 2, 3, 4), 4)
        self.expect(EIGHT, 8)
        self.expect((3,), 9)

    def test_beginnings_with_the_same_rests_lead_to_the_same_state(self):
        self.expect((26,), 8)
        self.expect((3, 2), 8)

    def test_letters_that_lead_to_no_state(self):
        for letters in LEAD_NOWHERE:
            with self.subTest(letters=letters):
                self.expect(letters, -3)

    def test_a_dictionary_without_words_has_no_states(self):
        self.assertEqual(ask(state(1), state(1, 1), add(1, 1), out(1, 1), state(1))[-1], [-3])
        self.assertEqual(ask(state(1), state(4, 1), state(4, *[1] * 60)), [[-3], [-3], [-3]])

    def test_the_number_changes_with_the_words(self):
        told = ask(add(1, 2), state(1, 2), add(1, 1, 5), state(1, 2), state(1, 1), out(1, 2), state(1, 2), state(1, 1, 5))
        self.assertEqual(told, [[1], [1], [2], [2], [1], [1], [-3], [2]])

    def test_the_number_is_that_of_the_row(self):
        told = ask(*adds(3, [(1, 2), (3,)]), pack(3), state(3, 1), state(3, 3), state(3, 1, 2))
        self.assertEqual(told[2:], [[9, 4, 1, 1, 3, 2, 2, 2, 2, 1], [1], [2], [2]])


class After(unittest.TestCase):
    def expect(self, letters, told):
        self.assertEqual(ask_last(*adds(3, WORDS), after(3, *letters)), told, letters)

    def test_no_letters(self):
        self.expect((), [0, 3, 1, 3, 26])

    def test_letters_that_are_no_word(self):
        self.expect((1,), [0, 1, 2])
        self.expect((1, 2, 3, 4), [0, 1, 5])

    def test_letters_that_are_a_word(self):
        self.expect((1, 2), [1, 1, 3])
        self.expect((1, 2, 3), [1, 1, 4])
        self.expect((26,), [1, 0])
        self.expect(EIGHT, [1, 0])

    def test_letters_lead_on_rising_whenever_they_came(self):
        words = [(5, n) for n in (26, 3, 17, 1, 2)]
        self.assertEqual(ask_last(*adds(1, words), after(1, 5)), [0, 5, 1, 2, 3, 17, 26])

    def test_all_26_letters(self):
        words = [(n,) for n in range(26, 0, -1)]
        self.assertEqual(ask_last(*adds(1, words), after(1)), [0, 26, *range(1, 27)])

    def test_letters_that_lead_to_no_state(self):
        for letters in LEAD_NOWHERE:
            with self.subTest(letters=letters):
                self.expect(letters, [-3])

    def test_a_dictionary_without_words_has_no_states(self):
        self.assertEqual(ask(after(1), after(1, 1), add(1, 1), out(1, 1), after(1))[-1], [-3])
        self.assertEqual(ask(after(1), after(4, 1), after(4, *[1] * 60)), [[-3], [-3], [-3]])


class Both(unittest.TestCase):
    def test_asking_changes_nothing(self):
        looks = [size(1), pack(1), begins(1), state(1, 1), after(1, 1), state(1, 9), after(1, 9)]
        told = ask(*adds(1, WORDS), *looks, *looks)
        self.assertEqual(told[5:12], told[12:])

    def test_each_dictionary_has_its_own(self):
        before = [add(1, 1), add(4, 2, 3)]
        told = ask(*before, *[call(d, 2) for d in (1, 2, 3, 4) for call in (state, after)])
        self.assertEqual(told[2:], [[-3]] * 6 + [[1], [0, 1, 3]])

    def hold(self, words, rows):
        calls = [call(1, *letters) for letters in rows for call in (state, after)]
        expected = []
        for letters in rows:
            number = model.lead(words, letters)
            expected += [[-3], [-3]] if number is None else [[number], model.after(words, letters)]
        self.assertEqual(ask_many(calls, before=[have(1, words)]), expected, words)

    def test_against_the_definitions(self):
        for seed in range(8):
            words = made_words(seed, 60, (1, 2, 3), 5)
            self.hold(words, sorted(model.beginnings(words)))
            words = made_words(seed, 60, range(1, 27), 8)
            self.hold(words, sorted(model.beginnings(words))[:60])
            words = made_words(seed, 10, (1, 2, 3), 4)
            self.hold(words, [letters for n in range(5) for letters in itertools.product((1, 2, 3), repeat=n)])


if __name__ == "__main__":
    unittest.main()
