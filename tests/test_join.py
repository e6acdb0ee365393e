"""Two dictionaries joined: join."""

import itertools
import unittest

from tests import model
from tests.asking import LARGEST, add, ask, have, join, made_words, number, out, pack, size, word

ONE = [(1,), (1, 2), (3, 3), (26,)]
OTHER = [(1, 2), (2,), (26,), (26, 1)]
EITHER = [(1,), (1, 2), (2,), (3, 3), (26,), (26, 1)]
BOTH = [(1, 2), (26,)]
FIRST_ALONE = [(1,), (3, 3)]
ONE_ALONE = [(1,), (2,), (3, 3), (26, 1)]
JOINED = (EITHER, BOTH, FIRST_ALONE, ONE_ALONE)
THREE_LETTERS = [(1 + n // 26, 1 + n % 26, 5) for n in range(61)]
LOOKS = [pack(d) for d in (1, 2, 3, 4)]
NO_DICTIONARIES = (0, 5, 6, LARGEST)


def told_row(words):
    row = model.row(words)
    return [len(row), *row]


class Ways(unittest.TestCase):
    def expect(self, before, call, places):
        """Behind the call each of the four dictionaries has the words told in places, and the answer is c's count."""
        told = ask(*[have(d + 1, words) for d, words in enumerate(before)], call, *LOOKS)
        self.assertEqual(told[4], [len(places[call[4] - 1])], call)
        self.assertEqual(told[5:], [told_row(words) for words in places], call)

    def test_into_another_dictionary(self):
        for k in range(4):
            self.expect([ONE, OTHER, [], []], join(k, 1, 2, 3), [ONE, OTHER, JOINED[k], []])
            self.expect([ONE, OTHER, [], [(9, 9)]], join(k, 1, 2, 4), [ONE, OTHER, [], JOINED[k]])
            self.expect([[], [(7,)], ONE, OTHER], join(k, 3, 4, 1), [JOINED[k], [(7,)], ONE, OTHER])

    def test_into_the_first(self):
        for k in range(4):
            self.expect([ONE, OTHER, [], []], join(k, 1, 2, 1), [JOINED[k], OTHER, [], []])

    def test_into_the_second(self):
        for k in range(4):
            self.expect([ONE, OTHER, [], []], join(k, 1, 2, 2), [ONE, JOINED[k], [], []])

    def test_the_other_way_round(self):
        joined = (EITHER, BOTH, [(2,), (26, 1)], ONE_ALONE)
        for k in range(4):
            self.expect([ONE, OTHER, [], []], join(k, 2, 1, 3), [ONE, OTHER, joined[k], []])
            self.expect([ONE, OTHER, [], []], join(k, 2, 1, 1), [joined[k], OTHER, [], []])
            self.expect([ONE, OTHER, [], []], join(k, 2, 1, 2), [ONE, joined[k], [], []])

    def test_a_dictionary_with_itself(self):
        for k in range(4):
            joined = ONE if k in (0, 1) else []
            self.expect([ONE, OTHER, [], []], join(k, 1, 1, 3), [ONE, OTHER, joined, []])
            self.expect([ONE, OTHER, [], []], join(k, 1, 1, 2), [ONE, joined, [], []])
            self.expect([ONE, OTHER, [], []], join(k, 1, 1, 1), [joined, OTHER, [], []])

    def test_dictionaries_without_words(self):
        for k in range(4):
            self.expect([ONE, [], [], []], join(k, 1, 2, 3), [ONE, [], [] if k == 1 else ONE, []])
            self.expect([ONE, [], [], []], join(k, 2, 1, 3), [ONE, [], ONE if k in (0, 3) else [], []])
            self.expect([ONE, [], [], []], join(k, 2, 3, 1), [[], [], [], []])
            self.expect([ONE, [], [], []], join(k, 2, 3, 4), [ONE, [], [], []])

    def test_what_c_had_is_gone(self):
        self.expect([ONE, OTHER, EITHER, []], join(1, 1, 2, 3), [ONE, OTHER, BOTH, []])

    def test_dictionaries_1_and_4_in_each_place(self):
        for a, b, c in itertools.product((1, 4), repeat=3):
            before = [ONE, [], [], OTHER]
            after = list(before)
            after[c - 1] = model.join(3, before[a - 1], before[b - 1])
            self.expect(before, join(3, a, b, c), after)

    def test_against_the_definitions(self):
        for seed in range(20):
            before = [made_words(seed + 100 * d, 25, (1, 2, 3), 3) for d in range(4)]
            for k, a, b in itertools.product(range(4), range(4), range(4)):
                after = list(before)
                after[seed % 4] = model.join(k, before[a], before[b])
                if len(after[seed % 4]) <= 60:
                    self.expect(before, join(k, a + 1, b + 1, seed % 4 + 1), after)


class Behind(unittest.TestCase):
    def test_the_words_are_in_order(self):
        told = ask(have(1, ONE), have(2, OTHER), join(0, 1, 2, 3), *[word(3, n) for n in range(7)], number(3, 26, 1))
        self.assertEqual(told[3:], [[len(letters), *letters] for letters in EITHER] + [[-3], [5]])

    def test_each_dictionary_keeps_its_own_words(self):
        told = ask(have(1, ONE), join(0, 1, 1, 2), add(2, 9), out(2, 1), *LOOKS, out(1, 26), *LOOKS)
        changed = sorted(ONE[1:] + [(9,)])
        self.assertEqual(told[2:8], [[5], [4], told_row(ONE), told_row(changed), [0], [0]])
        self.assertEqual(told[8:], [[3], told_row(ONE[:3]), told_row(changed), [0], [0]])

    def test_changes_to_the_second_leave_the_joined_as_it_is(self):
        told = ask(have(2, OTHER), join(0, 1, 2, 3), add(2, 9), out(2, 2), pack(3))
        self.assertEqual(told[-1], told_row(OTHER))

    def test_one_behind_another(self):
        told = ask(have(1, ONE), have(2, OTHER), join(2, 1, 2, 3), join(2, 2, 1, 4), join(0, 3, 4, 3), join(1, 3, 1, 1))
        self.assertEqual(told[2:], [[2], [2], [4], [2]])


class AtSixtyWords(unittest.TestCase):
    def setUp(self):
        self.before = [have(1, THREE_LETTERS[:30]), have(2, THREE_LETTERS[30:60]), have(3, THREE_LETTERS[31:61])]

    def test_60_words(self):
        for k, c in itertools.product((0, 3), (1, 2, 3, 4)):
            told = ask(*self.before, join(k, 1, 2, c), size(c), add(c, 9), add(c, *THREE_LETTERS[0]), pack(c))
            self.assertEqual(told[3:4] + told[5:], [[60], [-5], [-4], told_row(THREE_LETTERS[:60])])

    def test_61_words_are_refused(self):
        before = [*self.before, have(3, THREE_LETTERS[30:61])]
        for k, c in itertools.product((0, 3), (1, 2, 3, 4)):
            told = ask(*before, *LOOKS, join(k, 1, 3, c), *LOOKS)
            self.assertEqual(told[8], [-5])
            self.assertEqual(told[9:], told[4:8])

    def test_120_words_are_refused(self):
        before = [have(1, THREE_LETTERS[:60]), have(4, made_words(1, 60, (6, 7, 8), 8))]
        told = ask(*before, join(0, 1, 4, 2), join(3, 4, 1, 4), *LOOKS, join(1, 1, 4, 3), join(2, 1, 4, 3))
        self.assertEqual(told[2:4] + told[8:], [[-5], [-5], [0], [60]])
        self.assertEqual(told[4], told_row(THREE_LETTERS[:60]))

    def test_words_that_both_have_count_once(self):
        told = ask(have(1, THREE_LETTERS[:60]), have(2, THREE_LETTERS[1:61]), *[join(k, 1, 2, 3) for k in range(4)])
        self.assertEqual(told[2:], [[-5], [59], [1], [2]])
        told = ask(have(1, THREE_LETTERS[:60]), have(2, THREE_LETTERS[:60]), *[join(k, 1, 2, 3) for k in range(4)])
        self.assertEqual(told[2:], [[60], [60], [0], [0]])

    def test_room_is_asked_for_in_the_joined_alone(self):
        told = ask(have(1, ONE), have(2, OTHER), have(3, THREE_LETTERS[:60]), join(0, 1, 2, 3))
        self.assertEqual(told[3], [6])


class Refusals(unittest.TestCase):
    def refused(self, call, refusal):
        before = [have(1, ONE), have(2, OTHER), have(3, THREE_LETTERS[:60])]
        told = ask(*before, *LOOKS, call, *LOOKS)
        self.assertEqual(told[7], [refusal], call)
        self.assertEqual(told[8:], told[3:7], call)

    def test_no_dictionary_in_each_place(self):
        for k, d in itertools.product((0, 1, 2, 3, 4, LARGEST), NO_DICTIONARIES):
            self.refused(join(k, d, 2, 4), -1)
            self.refused(join(k, 1, d, 4), -1)
            self.refused(join(k, 1, 2, d), -1)
            self.refused(join(k, d, d, 1), -1)
            self.refused(join(k, d, d, d), -1)

    def test_k_above_3(self):
        for k in (4, 5, LARGEST):
            for a, b, c in itertools.product((1, 2, 4), repeat=3):
                self.refused(join(k, a, b, c), -1)

    def test_what_is_told_first_is_told_first(self):
        self.refused(join(0, 1, 3, 4), -5)
        self.refused(join(3, 3, 1, 3), -5)
        self.refused(join(4, 1, 3, 4), -1)
        self.refused(join(LARGEST, 3, 1, 3), -1)
        self.refused(join(0, 1, 3, 5), -1)
        self.refused(join(3, 3, 1, 0), -1)


if __name__ == "__main__":
    unittest.main()
