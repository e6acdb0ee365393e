"""The form of what is handed in and given back, and the refusals of all calls."""

import contextlib
import io
import sys
import unittest

from leaststates.words import answers
from tests.asking import LARGEST, add, adds, ask, begins, number, one_list, out, pack, size, word

EVERY_CALL = (
    lambda d: add(d, 1),
    lambda d: add(d, 8),
    lambda d: add(d),
    lambda d: out(d, 1),
    lambda d: out(d, 9),
    lambda d: number(d, 1),
    lambda d: number(d, 9),
    lambda d: word(d, 0),
    lambda d: word(d, LARGEST),
    lambda d: begins(d, 1),
    lambda d: begins(d),
    lambda d: size(d),
    lambda d: pack(d),
)
MIXED = one_list([
    add(1, 2), add(1, 1, 2), add(4, 3), add(0, 1), word(1, 0), begins(1), size(1), pack(1), pack(2), out(4, 3), add(1, 2),
])


class WhatIsGivenBack(unittest.TestCase):
    def test_each_answer_with_its_count_ahead_of_it(self):
        self.assertEqual(answers([0, 1, 2, 7, 8]), [1, 1])
        self.assertEqual(answers([1, 1, 1, 5]), [1, -3])
        self.assertEqual(answers([0, 2, 1, 5, 1, 2, 1, 5]), [1, 1, 1, 0])
        self.assertEqual(answers([0, 2, 1, 5, 2, 2, 1, 5]), [1, 1, 1, 0])
        self.assertEqual(answers([0, 2, 3, 5, 6, 7, 3, 2, 0]), [1, 1, 4, 3, 5, 6, 7])
        self.assertEqual(answers([4, 3, 0]), [2, 0, 0])
        self.assertEqual(answers([4, 3, 2, 1, 1]), [2, 0, 0])
        self.assertEqual(answers([5, 1]), [3, 0, 0, 0])
        self.assertEqual(answers([6, 1]), [1, 0])
        self.assertEqual(answers([0, 1, 1, 9, 6, 1]), [1, 1, 5, 4, 2, 9, 1, 1])

    def test_several_calls_in_one_list(self):
        self.assertEqual(answers(MIXED), [
            1, 1, 1, 2, 1, 1, 1, -1, 3, 2, 1, 2, 2, 2, 0, 3, 3, 3, 2,
            10, 9, 4, 1, 1, 2, 2, 2, 2, 2, 1, 1, 0, 1, 0, 1, -4,
        ])

    def test_whole_numbers_in_a_list(self):
        told = answers(list(MIXED))
        self.assertIs(type(told), list)
        for n in told:
            self.assertIs(type(n), int)

    def test_40_calls_in_one_list(self):
        words = [(1 + n % 26, 1 + n // 26) for n in range(36)]
        told = ask(*adds(1, words), size(1), word(1, 35), begins(1, 3), add(1, 1, 1))
        self.assertEqual(told[:36], [[n] for n in range(1, 37)])
        self.assertEqual(told[36:], [[4, 26 + 2 + 1, 36], [2, 26, 1], [2, 4], [-4]])

    def test_40_calls_with_as_many_letters_as_there_may_be(self):
        told = ask(*[call(1, *[n] * 60) for n in range(10) for call in (add, out, number, begins)])
        self.assertEqual(told, [[-1], [-3], [-3], [0, 0]] * 10)


class WhatIsHandedIn(unittest.TestCase):
    def test_it_is_as_it_was(self):
        handed = list(MIXED)
        answers(handed)
        self.assertEqual(handed, MIXED)

    def test_it_is_never_changed(self):
        class Fixed(list):
            def refuse(self, *given):
                raise AssertionError("what is handed in was changed")

            append = clear = extend = insert = pop = remove = reverse = sort = refuse
            __setitem__ = __delitem__ = __iadd__ = __imul__ = refuse

        self.assertEqual(answers(Fixed(MIXED)), answers(list(MIXED)))

    def test_what_is_given_back_is_not_what_is_handed_in(self):
        handed = [5, 1]
        told = answers(handed)
        told.append(9)
        self.assertEqual((handed, answers(handed)), ([5, 1], [3, 0, 0, 0]))

    def test_nothing_is_kept_from_one_time_to_the_next(self):
        first = answers(list(MIXED))
        answers(one_list(adds(1, [(1,), (2,), (3,)])))
        self.assertEqual(answers(list(MIXED)), first)
        self.assertEqual(ask(*[size(d) for d in (1, 2, 3, 4)]), [[0, 0, 0]] * 4)

    def test_nothing_is_printed(self):
        printed = io.StringIO()
        with contextlib.redirect_stdout(printed), contextlib.redirect_stderr(printed):
            answers(list(MIXED))
        self.assertEqual(printed.getvalue(), "")

    def test_few_calls_stand_within_one_another(self):
        depth = 0
        frame = sys._getframe()
        while frame is not None:
            depth += 1
            frame = frame.f_back
        usual = sys.getrecursionlimit()
        calls = one_list([add(1, 1, 2, 3, 4, 5, 6, 7, 8), *[pack(1)] * 39])
        sys.setrecursionlimit(depth + 60)
        try:
            told = answers(calls)
        finally:
            sys.setrecursionlimit(usual)
        self.assertEqual(len(told), 2 + 39 * 27)


class NoDictionary(unittest.TestCase):
    def test_dictionaries_1_to_4(self):
        told = ask(*[add(d, 1) for d in (1, 2, 3, 4)], *[size(d) for d in (1, 2, 3, 4)])
        self.assertEqual(told, [[1]] * 4 + [[2, 1, 1]] * 4)

    def test_no_others_in_any_call(self):
        for d in (0, 5, 6, LARGEST):
            for n, call in enumerate(EVERY_CALL):
                with self.subTest(d=d, call=n):
                    self.assertEqual(ask(*[add(own, 1) for own in (1, 2, 3, 4)], call(d))[-1], [-1])

    def test_all_is_as_it_was_behind_each_refusal(self):
        before = [add(1, 1, 2), add(2, 3), add(4, 1), add(4, 1, 1)]
        looks = [pack(d) for d in (1, 2, 3, 4)]
        refused = [(call(d), [-1]) for d in (0, 5, LARGEST) for call in EVERY_CALL]
        refused += [
            (add(1), [-1]), (add(3, 0), [-1]), (add(4, 27, 1), [-1]), (add(2, *[3] * 9), [-1]),
            (add(1, 1, 2), [-4]), (add(4, 1), [-4]),
            (out(1, 1), [-3]), (out(2), [-3]), (out(3, 3), [-3]), (out(4, 1, 1, 1), [-3]),
            (number(1, 1), [-3]), (number(3, 1), [-3]), (word(1, 1), [-3]), (word(3, 0), [-3]),
        ]
        for call, refusal in refused:
            with self.subTest(call=call):
                told = ask(*before, *looks, call, *looks)
                self.assertEqual(told[8], refusal)
                self.assertEqual(told[9:], told[4:8])


if __name__ == "__main__":
    unittest.main()
