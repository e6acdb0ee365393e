"""Words that come and go, their numbers and what begins so: add, out, number, word, begins."""

import unittest

from tests.asking import LARGEST, add, adds, ask, ask_last, begins, have, number, out, pack, word

EIGHT = (1, 2, 3, 4, 5, 6, 7, 8)
SIXTY = [(1 + k // 26, 1 + k % 26) for k in range(60)]
# Rows of letters that are no word, whatever else they are.
NO_WORDS = (
    (),
    EIGHT + (9,),
    (1,) * 60,
    (0,),
    (27,),
    (LARGEST,),
    (1, 0),
    (0, 1),
    (1, 2, 27),
    (27, 1),
    (1, 2, 3, 4, 5, 6, 7, LARGEST),
    (0,) * 60,
)


class Add(unittest.TestCase):
    def test_answers_how_many_words_there_are_then(self):
        self.assertEqual(ask(add(1, 3), add(1, 1, 2), add(1, 2)), [[1], [2], [3]])

    def test_each_dictionary_has_its_own_words(self):
        told = ask(add(1, 5), add(4, 5), add(2, 5), add(3, 5), add(4, 6), number(1, 6), number(4, 6))
        self.assertEqual(told, [[1], [1], [1], [1], [2], [-3], [1]])

    def test_words_put_in_out_of_order_are_in_order(self):
        words = [(2, 1), (1,), (26,), (1, 1, 1), (2,), (1, 2), (1, 1)]
        told = ask(*adds(3, words), *[word(3, n) for n in range(7)])
        in_order = [[1, 1], [2, 1, 1], [3, 1, 1, 1], [2, 1, 2], [1, 2], [2, 2, 1], [1, 26]]
        self.assertEqual(told[7:], in_order)

    def test_a_word_of_1_letter_and_of_8(self):
        self.assertEqual(ask(add(1, 7), add(1, *EIGHT), word(1, 0), word(1, 1)), [[1], [2], [8, *EIGHT], [1, 7]])

    def test_letters_1_and_26(self):
        self.assertEqual(ask(add(1, 1), add(1, 26), add(1, 26, 1, 26)), [[1], [2], [3]])

    def test_no_word_is_refused(self):
        for letters in NO_WORDS:
            with self.subTest(letters=letters):
                told = ask(add(1, 1), add(1, *letters), pack(1), add(1, 2))
                self.assertEqual(told, [[1], [-1], [4, 2, 1, 1, 1], [2]])

    def test_a_word_that_is_there_is_refused(self):
        told = ask(add(2, 4, 5), add(2, 4, 5), add(2, 4), add(2, 4, 5), add(2, 4), add(2, 4, 5, 6))
        self.assertEqual(told, [[1], [-4], [2], [-4], [-4], [3]])

    def test_a_word_of_another_dictionary_is_put_in(self):
        self.assertEqual(ask(add(2, 4, 5), add(3, 4, 5)), [[1], [1]])

    def test_a_word_that_was_taken_out_is_put_in_again(self):
        self.assertEqual(ask(add(1, 4), out(1, 4), add(1, 4), add(1, 4)), [[1], [0], [1], [-4]])


class AtSixtyWords(unittest.TestCase):
    def setUp(self):
        self.full = [have(1, SIXTY[:40]), *adds(1, SIXTY[40:])]

    def test_the_60th_word_is_put_in_and_one_more_is_refused(self):
        told = ask(*self.full, add(1, 3), add(1, 26, 26), number(1, 3), word(1, 60), add(2, 3))
        self.assertEqual(told[:21], [[n] for n in range(40, 61)])
        self.assertEqual(told[21:], [[-5], [-5], [-3], [-3], [1]])

    def test_a_refused_word_leaves_all_as_it_was(self):
        told = ask(*self.full, pack(1), add(1, 4, 4), pack(1))
        self.assertEqual(told[22], [-5])
        self.assertEqual(told[21], told[23])

    def test_a_word_that_is_there_is_told_so_first(self):
        self.assertEqual(ask(*self.full, add(1, *SIXTY[0]), add(1, *SIXTY[59]))[21:], [[-4], [-4]])

    def test_no_word_is_told_so_first(self):
        for letters in NO_WORDS:
            with self.subTest(letters=letters):
                self.assertEqual(ask_last(*self.full, add(1, *letters)), [-1])

    def test_no_dictionary_is_told_so_first(self):
        self.assertEqual(ask_last(*self.full, add(5, 3)), [-1])

    def test_there_is_room_again_when_one_is_taken_out(self):
        told = ask(*self.full, out(1, *SIXTY[30]), add(1, 9), add(1, *SIXTY[30]))
        self.assertEqual(told[21:], [[59], [60], [-5]])

    def test_the_last_word_is_just_there(self):
        told = ask(*self.full, word(1, 59), word(1, 60), number(1, *SIXTY[59]))
        self.assertEqual(told[21:], [[2, 3, 8], [-3], [59]])


class Out(unittest.TestCase):
    def test_answers_how_many_words_there_are_then(self):
        told = ask(*adds(2, [(3,), (1, 2), (1,)]), out(2, 1, 2), out(2, 3), out(2, 1))
        self.assertEqual(told[3:], [[2], [1], [0]])

    def test_the_others_stay_in_order(self):
        told = ask(*adds(2, [(3,), (1, 2), (1,)]), out(2, 1, 2), word(2, 0), word(2, 1), word(2, 2), number(2, 3))
        self.assertEqual(told[4:], [[1, 1], [1, 3], [-3], [1]])

    def test_what_is_not_there_is_refused(self):
        for letters in NO_WORDS + ((1,), (1, 2, 3), (2,), (1, 3), EIGHT):
            with self.subTest(letters=letters):
                told = ask(add(1, 1, 2), out(1, *letters), number(1, 1, 2), add(1, 5))
                self.assertEqual(told, [[1], [-3], [0], [2]])

    def test_a_word_of_another_dictionary_is_not_there(self):
        self.assertEqual(ask(add(1, 6), out(2, 6), number(1, 6)), [[1], [-3], [0]])

    def test_a_word_is_taken_out_once(self):
        self.assertEqual(ask(add(1, 6), out(1, 6), out(1, 6)), [[1], [0], [-3]])


class Number(unittest.TestCase):
    def test_words_are_numbered_in_order_from_0(self):
        words = [(2, 2), (2,), (1, 26), (1, 3, 1), (1, 3)]
        told = ask(*adds(4, words), *[number(4, *letters) for letters in words])
        self.assertEqual(told[5:], [[4], [3], [2], [1], [0]])

    def test_what_is_not_there_is_refused(self):
        for letters in NO_WORDS + ((1,), (1, 2, 3), (2,), (1, 3), EIGHT):
            with self.subTest(letters=letters):
                self.assertEqual(ask(add(1, 1, 2), number(1, *letters), number(1, 1, 2)), [[1], [-3], [0]])

    def test_a_dictionary_without_words_has_none(self):
        self.assertEqual(ask(number(1, 1), number(1)), [[-3], [-3]])


class Word(unittest.TestCase):
    def test_the_count_of_letters_then_the_letters(self):
        self.assertEqual(ask_last(add(1, 9, 26, 1), word(1, 0)), [3, 9, 26, 1])

    def test_a_number_that_is_just_there_and_just_not(self):
        told = ask(add(1, 1), add(1, 2), word(1, 1), word(1, 2), word(1, 3), word(1, LARGEST))
        self.assertEqual(told[2:], [[1, 2], [-3], [-3], [-3]])

    def test_a_dictionary_without_words_has_none(self):
        self.assertEqual(ask(word(1, 0), add(1, 1), out(1, 1), word(1, 0)), [[-3], [1], [0], [-3]])


class Begins(unittest.TestCase):
    def setUp(self):
        self.words = adds(1, [(2,), (1, 2), (1, 2, 3), (1, 3, 1, 1, 1, 1, 1, 1), (26, 26)])

    def expect(self, letters, told):
        self.assertEqual(ask_last(*self.words, begins(1, *letters)), told)

    def test_no_letters_begin_all(self):
        self.expect((), [5, 0])

    def test_letters_that_are_no_word(self):
        self.expect((1,), [3, 0])
        self.expect((26,), [1, 4])

    def test_letters_that_are_a_word(self):
        self.expect((1, 2), [2, 0])
        self.expect((1, 2, 3), [1, 1])
        self.expect((2,), [1, 3])
        self.expect((26, 26), [1, 4])

    def test_letters_that_nothing_begins_with(self):
        self.expect((1, 1), [0, 0])
        self.expect((1, 2, 2), [0, 1])
        self.expect((1, 2, 4), [0, 2])
        self.expect((3,), [0, 4])

    def test_letters_longer_than_a_word(self):
        self.expect((2, 1), [0, 4])
        self.expect((1, 2, 3, 1), [0, 2])
        self.expect((1, 3, 1, 1, 1, 1, 1, 1), [1, 2])
        self.expect((1, 3, 1, 1, 1, 1, 1, 1, 1), [0, 3])
        self.expect((26,) * 60, [0, 5])
        self.expect((1,) * 60, [0, 0])

    def test_letters_that_could_be_no_word(self):
        self.expect((0,), [0, 0])
        self.expect((27,), [0, 5])
        self.expect((LARGEST,), [0, 5])
        self.expect((1, 0), [0, 0])
        self.expect((1, 2, 0), [0, 1])
        self.expect((1, 27), [0, 3])
        self.expect((0,) * 60, [0, 0])
        self.expect((LARGEST,) * 60, [0, 5])

    def test_a_dictionary_without_words(self):
        self.assertEqual(ask(begins(1), begins(1, 1), begins(2, 27)), [[0, 0], [0, 0], [0, 0]])
        self.assertEqual(ask_last(add(1, 1), out(1, 1), begins(1, 26)), [0, 0])


if __name__ == "__main__":
    unittest.main()
