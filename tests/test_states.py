"""The states, their numbering and the row: size and pack."""

import itertools
import unittest

from tests import model
from tests.asking import add, adds, ask, begins, have, made_words, number, out, pack, size


def size_and_row(words):
    # Where they are too many for one list, the others are there before.
    told = ask(have(1, words[:-37]), *adds(1, words[-37:]), size(1), pack(1))
    return told[-2], told[-1]


class WrittenOut(unittest.TestCase):
    def expect(self, words, told_size, row):
        self.assertEqual(size_and_row(words), (told_size, [len(row)] + row))

    def test_no_words_no_states(self):
        self.expect([], [0, 0, 0], [])

    def test_one_word(self):
        self.expect([(26,)], [2, 1, 1], [2, 26, 1, 1])
        self.expect([(3, 3)], [3, 2, 1], [2, 3, 1, 2, 3, 2, 1])

    def test_a_word_of_8_letters(self):
        row = [2, 8, 1, 2, 7, 2, 2, 6, 3, 2, 5, 4, 2, 4, 5, 2, 3, 6, 2, 2, 7, 2, 1, 8, 1]
        self.expect([(8, 7, 6, 5, 4, 3, 2, 1)], [9, 8, 1], row)

    def test_a_word_may_end_where_letters_lead_on(self):
        self.expect([(1, 2), (1,)], [3, 2, 2], [2, 1, 1, 3, 2, 2, 1])

    def test_beginnings_with_the_same_rests_share_a_state(self):
        self.expect([(3, 2), (1, 2)], [3, 3, 2], [4, 1, 1, 3, 1, 2, 2, 2, 1])

    def test_beginnings_of_different_lengths_share_a_state(self):
        self.expect([(1, 2, 5), (2, 5)], [4, 4, 2], [4, 1, 1, 2, 2, 2, 2, 2, 2, 5, 3, 1])

    def test_beginnings_that_differ_in_an_empty_rest_alone_share_none(self):
        row = [4, 1, 1, 2, 3, 2, 5, 2, 1, 3, 5, 2]
        self.expect([(1, 5), (2,), (2, 5)], [4, 4, 3], row)

    def test_all_from_a_letter_is_met_before_the_next_letter(self):
        row = [4, 1, 1, 2, 4, 2, 1, 2, 2, 1, 3, 1, 2, 9, 3]
        self.expect([(2, 9), (1, 1, 1)], [5, 5, 2], row)

    def test_a_state_is_numbered_when_met_first_not_when_first_told(self):
        row = [4, 1, 1, 2, 3, 2, 1, 2, 2, 1, 3, 1]
        self.expect([(1, 1, 1), (2,)], [4, 4, 2], row)

    def test_lower_letters_first_whenever_they_were_put_in(self):
        row = [6, 1, 1, 2, 3, 26, 4, 2, 1, 2, 1, 2, 2, 2, 2, 3, 2]
        self.expect([(26, 3), (2, 2), (1, 1)], [5, 6, 3], row)


class ComingAndGoing(unittest.TestCase):
    def test_all_words_taken_out_again(self):
        told = ask(add(2, 1, 2), add(2, 1), out(2, 1, 2), out(2, 1), size(2), pack(2), begins(2))
        self.assertEqual(told[4:], [[0, 0, 0], [0], [0, 0]])

    def test_the_row_is_the_words_alone_however_they_came(self):
        words = [(1, 2, 3), (4, 2, 3), (4,), (5, 3)]
        rows = []
        for order in itertools.permutations(words):
            detour = [add(1, 9, 9), *adds(1, order), add(1, 4, 2), out(1, 9, 9), out(1, 4, 2)]
            rows.append(ask(*detour, pack(1))[-1])
        self.assertEqual(rows, [[len(model.row(words))] + model.row(words)] * 24)

    def test_a_state_is_shared_again_when_a_word_goes(self):
        told = ask(*adds(1, [(1, 5), (2, 5), (2,)]), size(1), out(1, 2), size(1), add(1, 1), size(1), pack(1))
        self.assertEqual(told[3:], [[4, 4, 3], [2], [3, 3, 2], [3], [4, 4, 3], [12, 4, 1, 1, 2, 3, 3, 5, 2, 1, 2, 5, 2]])

    def test_each_dictionary_has_its_own_states(self):
        told = ask(add(1, 1), add(3, 1, 2), size(1), size(2), size(3), size(4), pack(1), pack(2), pack(3))
        self.assertEqual(told[2:6], [[2, 1, 1], [0, 0, 0], [3, 2, 1], [0, 0, 0]])
        self.assertEqual(told[6:], [[4, 2, 1, 1, 1], [0], [7, 2, 1, 1, 2, 2, 2, 1]])

    def test_asking_changes_nothing(self):
        told = ask(*adds(1, [(1, 2), (3, 2)]), *[pack(1), size(1), begins(1, 1), number(1, 3, 2)] * 2)
        self.assertEqual(told[2:6], told[6:])


class AgainstTheDefinitions(unittest.TestCase):
    def hold(self, words):
        row = model.row(words)
        self.assertEqual(size_and_row(words), (model.size(words), [len(row)] + row), words)

    def test_all_dictionaries_of_short_words(self):
        short = [letters for n in (1, 2) for letters in itertools.product((1, 2, 26), repeat=n)]
        for chosen in itertools.product((False, True), repeat=len(short)):
            self.hold([letters for letters, there in zip(short, chosen) if there])

    def test_longer_words(self):
        for seed in range(60):
            self.hold(made_words(seed, 38, (1, 2), 8))
            self.hold(made_words(seed, 20 + seed % 15, (1, 2, 3), 4))
            self.hold(made_words(seed, 38, range(1, 27), 8))

    def test_as_many_words_as_there_may_be(self):
        for seed in range(10):
            self.hold(made_words(seed, 60, (1, 2, 3), 8))
            self.hold(made_words(seed, 60, range(1, 27), 8))

    def test_order_and_begins(self):
        for seed in range(30):
            words = made_words(seed, 20, (1, 2, 3), 4)
            rows = made_words(seed + 1000, 10, (0, 1, 2, 3, 27), 5)
            told = ask(*adds(2, words), *[number(2, *letters) for letters in words[:10]])
            ordered = model.in_order(words)
            self.assertEqual(told[20:], [[ordered.index(letters)] for letters in words[:10]])
            told = ask(*adds(2, words), *[begins(2, *letters) for letters in rows])
            self.assertEqual(told[20:], [model.begins(words, letters) for letters in rows])


if __name__ == "__main__":
    unittest.main()
