"""The form of what is handed in and given back, and the refusals of all calls."""

import contextlib
import io
import sys
import unittest

from leaststates.words import answers
from tests.asking import (
    LARGEST, add, adds, after, ask, begins, fits, have, head, in_time, join, number, one_list, out, pack, size, state,
    unpack, ways, word,
)

EVERY_CALL = (
    lambda d: add(d, 1),
    lambda d: add(d, 8),
    lambda d: add(d),
    lambda d: out(d, 1),
    lambda d: out(d, 9),
    lambda d: number(d, 1),
    lambda d: number(d, 9),
    lambda d: word(d, 0),
    lambda d: word(d, LARGEST),
    lambda d: begins(d, 1),
    lambda d: begins(d),
    lambda d: size(d),
    lambda d: pack(d),
    lambda d: unpack(d, []),
    lambda d: unpack(d, [2, 9, 1, 1]),
    lambda d: unpack(d, [2]),
    lambda d: unpack(d, [1]),
    lambda d: unpack(d, [5, 1, 0, 2, 0]),
    lambda d: unpack(d, [0] * 2100),
    lambda d: state(d),
    lambda d: state(d, 9),
    lambda d: after(d),
    lambda d: after(d, 9),
    lambda d: join(0, d, 1, 2),
    lambda d: join(1, 1, d, 2),
    lambda d: join(2, 1, 4, d),
    lambda d: join(3, d, d, d),
    lambda d: join(4, d, 1, 2),
    lambda d: fits(d, 0, 9, 27),
    lambda d: fits(d, 0, 9, 28),
    lambda d: fits(d, LARGEST, LARGEST),
    lambda d: ways(d),
    lambda d: ways(d, *[1] * 41),
    lambda d: head(d, 1),
    lambda d: head(d, 9),
    lambda d: head(d, *[1] * 41),
)
MIXED = one_list([
    add(1, 2), add(1, 1, 2), add(4, 3), add(0, 1), word(1, 0), begins(1), size(1), pack(1), pack(2), out(4, 3), add(1, 2),
    unpack(3, [2, 1, 1, 3, 2, 2, 1]), unpack(4, [1]), state(3, 1), state(2), after(3, 1), after(3, 2), join(0, 1, 3, 4),
    join(1, 1, 3, 3), join(4, 1, 1, 1), fits(4, 1, 1, 27, 2), fits(4, 0, 9, 28), ways(4, 1, 2, 1, 2), head(4, 1, 2, 3),
    head(4, 3), pack(3),
])


class WhatIsGivenBack(unittest.TestCase):
    def test_each_answer_with_its_count_ahead_of_it(self):
        self.assertEqual(answers([0, 1, 2, 7, 8]), [1, 1])
        self.assertEqual(answers([1, 1, 1, 5]), [1, -3])
        self.assertEqual(answers([0, 2, 1, 5, 1, 2, 1, 5]), [1, 1, 1, 0])
        self.assertEqual(answers([0, 2, 1, 5, 2, 2, 1, 5]), [1, 1, 1, 0])
        self.assertEqual(answers([0, 2, 3, 5, 6, 7, 3, 2, 0]), [1, 1, 4, 3, 5, 6, 7])
        self.assertEqual(answers([4, 3, 0]), [2, 0, 0])
        self.assertEqual(answers([4, 3, 2, 1, 1]), [2, 0, 0])
        self.assertEqual(answers([5, 1]), [3, 0, 0, 0])
        self.assertEqual(answers([6, 1]), [1, 0])
        self.assertEqual(answers([0, 1, 1, 9, 6, 1]), [1, 1, 5, 4, 2, 9, 1, 1])
        self.assertEqual(answers([7, 1, 4, 2, 9, 1, 1]), [1, 1])
        self.assertEqual(answers([7, 1, 0]), [1, 0])
        self.assertEqual(answers([7, 1, 1, 1]), [1, -7])
        self.assertEqual(answers([0, 2, 2, 5, 6, 8, 2, 1, 5]), [1, 1, 1, 1])
        self.assertEqual(answers([8, 2, 0]), [1, -3])
        self.assertEqual(answers([0, 2, 2, 5, 6, 9, 2, 1, 5]), [1, 1, 3, 0, 1, 6])
        self.assertEqual(answers([0, 2, 2, 5, 6, 9, 2, 2, 5, 6]), [1, 1, 2, 1, 0])
        self.assertEqual(answers([9, 2, 0]), [1, -3])
        self.assertEqual(answers([0, 2, 1, 5, 10, 0, 2, 1, 3]), [1, 1, 1, 1])
        self.assertEqual(answers([10, 4, 2, 1, 3]), [1, -1])
        self.assertEqual(answers([0, 2, 1, 5, 11, 2, 0, 7, 1, 27]), [1, 1, 3, 1, 1, 0])
        self.assertEqual(answers([0, 2, 1, 5, 11, 2, 0, 0, 1, 27]), [1, 1, 2, 1, 0])
        self.assertEqual(answers([11, 2, 0, 7, 0]), [2, 0, 0])
        self.assertEqual(answers([11, 2, 0, 7, 1, 28]), [1, -1])
        self.assertEqual(answers([0, 2, 1, 5, 12, 2, 2, 5, 5]), [1, 1, 1, 1])
        self.assertEqual(answers([12, 2, 0]), [1, 1])
        self.assertEqual(answers([0, 2, 1, 5, 13, 2, 2, 5, 5]), [1, 1, 1, 1])
        self.assertEqual(answers([13, 2, 0]), [1, -3])

    def test_several_calls_in_one_list(self):
        self.assertEqual(answers(MIXED), [
            1, 1, 1, 2, 1, 1, 1, -1, 3, 2, 1, 2, 2, 2, 0, 3, 3, 3, 2,
            10, 9, 4, 1, 1, 2, 2, 2, 2, 2, 1, 1, 0, 1, 0, 1, -4,
            1, 2, 1, -7, 1, 1, 1, -3, 3, 1, 1, 2, 1, -3, 1, 3,
            1, 1, 1, -1, 3, 2, 1, 1, 1, -1, 1, 4, 1, 2,
            1, -3, 8, 7, 2, 1, 1, 2, 2, 2, 1,
        ])

    def test_whole_numbers_in_a_list(self):
        told = answers(list(MIXED))
        self.assertIs(type(told), list)
        for n in told:
            self.assertIs(type(n), int)

    def test_40_calls_in_one_list(self):
        words = [(1 + n % 26, 1 + n // 26) for n in range(36)]
        told = ask(*adds(1, words), size(1), word(1, 35), begins(1, 3), add(1, 1, 1))
        self.assertEqual(told[:36], [[n] for n in range(1, 37)])
        self.assertEqual(told[36:], [[4, 26 + 2 + 1, 36], [2, 26, 1], [2, 4], [-4]])

    def test_40_calls_with_as_many_letters_as_there_may_be(self):
        told = ask(*[call(1, *[n] * 60) for n in range(10) for call in (add, out, number, begins)])
        self.assertEqual(told, [[-1], [-3], [-3], [0, 0]] * 10)


    def test_40_calls_of_all_kinds(self):
        kinds = [
            add(1, 2), out(1, 9), number(1, 1), word(1, 0), begins(1, 1), size(1), pack(1), unpack(2, [2, 3, 1, 1]),
            state(1, 1), after(1, 1), join(0, 1, 2, 3), fits(3, 0, 9, 27), ways(3, 1, 2, 3), head(3, 3, 3),
        ]
        self.assertEqual([call[0] for call in kinds], list(range(14)))
        once = [
            [2], [-3], [0], [1, 1], [1, 0], [2, 2, 2], [6, 4, 1, 1, 2, 1, 1], [1],
            [1], [1, 0], [3], [3, 3, 0, 1, 2], [1], [1],
        ]
        self.assertEqual(ask(add(1, 1), *kinds, *kinds, *kinds[:11]), [[1], *once, [-4], *once[1:], [-4], *once[1:11]])

    def test_close_to_30000_numbers(self):
        words = [(1 + n // 26, 1 + n % 26, 1 + n % 5) for n in range(60)]
        longest = [1999, *[1, 0] * 999, 0]
        rows = [longest, [0] * 2100, [2, 1, 1] * 666, longest[:1999] + [5], [LARGEST] * 2100, longest + [1] * 100]
        refusals = [[-5], [-1], [-7], [-1], [-1], [-1]]
        self.assertEqual([len(row) for row in rows], [2000, 2100, 1998, 2000, 2100, 2100])
        calls = [have(1, words)]
        expected = [[60]]
        for n in range(14):
            calls += [unpack(1 + n % 4, rows[n % 6]), fits(1, 0, n, 27)]
            expected += [refusals[n % 6], [60, n, *range(n)]]
        while len(calls) < 40:
            calls.append(begins(1, *[1] * 60))
            expected.append([0, 1])
        self.assertTrue(29500 < len(one_list(calls)) <= 30000, len(one_list(calls)))
        self.assertEqual(ask(*calls), expected)

    def test_each_call_40_times_in_time(self):
        words = [(1 + n % 2,) * (n % 8) + (1 + n // 8,) for n in range(60)]
        for call in (
            size(1), pack(1), word(1, 3), add(1, 9), out(1, 9), number(1, 9), begins(1, 1), state(1, 1), after(1, 1),
            fits(1, 0, LARGEST, *[27, 0] * 5), ways(1, *[1] * 40), head(1, *[1] * 40), join(0, 1, 1, 1), join(3, 1, 2, 1),
        ):
            told = ask(have(1, words), *[call] * 39)
            self.assertEqual((told[0], told[2:]), ([60], [told[1]] * 38), call)


class WhatIsHandedIn(unittest.TestCase):
    def test_it_is_as_it_was(self):
        handed = list(MIXED)
        answers(handed)
        self.assertEqual(handed, MIXED)

    def test_it_is_never_changed(self):
        class Fixed(list):
            def refuse(self, *given):
                raise AssertionError("what is handed in was changed")

            append = clear = extend = insert = pop = remove = reverse = sort = refuse
            __setitem__ = __delitem__ = __iadd__ = __imul__ = refuse

        self.assertEqual(answers(Fixed(MIXED)), answers(list(MIXED)))

    def test_what_is_given_back_is_not_what_is_handed_in(self):
        handed = [5, 1]
        told = answers(handed)
        told.append(9)
        self.assertEqual((handed, answers(handed)), ([5, 1], [3, 0, 0, 0]))

    def test_nothing_is_kept_from_one_time_to_the_next(self):
        first = answers(list(MIXED))
        answers(one_list(adds(1, [(1,), (2,), (3,)])))
        self.assertEqual(answers(list(MIXED)), first)
        self.assertEqual(ask(*[size(d) for d in (1, 2, 3, 4)]), [[0, 0, 0]] * 4)

    def test_nothing_is_printed(self):
        printed = io.StringIO()
        with contextlib.redirect_stdout(printed), contextlib.redirect_stderr(printed):
            answers(list(MIXED))
        self.assertEqual(printed.getvalue(), "")

    def test_few_calls_stand_within_one_another(self):
        depth = 0
        frame = sys._getframe()
        while frame is not None:
            depth += 1
            frame = frame.f_back
        usual = sys.getrecursionlimit()
        eight = [1, 2, 3, 4, 5, 6, 7, 8]
        chain = [n for k in range(1, 666) for n in (2, 1, k)] + [1]
        calls = one_list([
            add(1, *eight), *[pack(1)] * 20, unpack(2, chain), state(1, *eight), after(1, *eight), join(0, 1, 1, 2),
            fits(1, 0, 9, *[27] * 10), ways(1, *eight * 5), head(1, *eight * 5), unpack(2, [1999, *[1, 0] * 999]),
        ])
        sys.setrecursionlimit(depth + 60)
        try:
            with in_time():
                told = answers(calls)
        finally:
            sys.setrecursionlimit(usual)
        self.assertEqual(told[2 + 20 * 27:], [1, -7, 1, 8, 2, 1, 0, 1, 1, 3, 1, 1, 0, 1, 1, 1, 8, 1, -5])


class NoDictionary(unittest.TestCase):
    def test_dictionaries_1_to_4(self):
        told = ask(*[add(d, 1) for d in (1, 2, 3, 4)], *[size(d) for d in (1, 2, 3, 4)])
        self.assertEqual(told, [[1]] * 4 + [[2, 1, 1]] * 4)

    def test_join_in_each_place(self):
        told = ask(add(1, 1), add(4, 2), join(0, 1, 4, 2), join(0, 4, 1, 3), join(2, 4, 1, 4), join(0, 2, 4, 1))
        self.assertEqual(told[2:], [[2], [2], [1], [2]])

    def test_no_others_in_any_call(self):
        for d in (0, 5, 6, LARGEST):
            for n, call in enumerate(EVERY_CALL):
                with self.subTest(d=d, call=n):
                    self.assertEqual(ask(*[add(own, 1) for own in (1, 2, 3, 4)], call(d))[-1], [-1])

    def test_all_is_as_it_was_behind_each_refusal(self):
        before = [add(1, 1, 2), add(2, 3), add(4, 1), add(4, 1, 1)]
        looks = [pack(d) for d in (1, 2, 3, 4)]
        refused = [(call(d), [-1]) for d in (0, 5, LARGEST) for call in EVERY_CALL]
        refused += [
            (add(1), [-1]), (add(3, 0), [-1]), (add(4, 27, 1), [-1]), (add(2, *[3] * 9), [-1]),
            (add(1, 1, 2), [-4]), (add(4, 1), [-4]),
            (out(1, 1), [-3]), (out(2), [-3]), (out(3, 3), [-3]), (out(4, 1, 1, 1), [-3]),
            (number(1, 1), [-3]), (number(3, 1), [-3]), (word(1, 1), [-3]), (word(3, 0), [-3]),
            (unpack(1, [2]), [-1]), (unpack(1, [0] * 2001), [-1]), (unpack(4, [5, 1, 0, 2, 0]), [-5]), (unpack(2, [1]), [-7]),
            (state(1, 2), [-3]), (state(3), [-3]), (after(1, 1, 1), [-3]), (after(3), [-3]),
            (join(4, 1, 2, 3), [-1]), (join(LARGEST, 1, 2, 1), [-1]),
            (fits(1, 0, 9, 28), [-1]), (fits(3, 0, 9, *[27] * 11), [-1]),
            (ways(1, *[1] * 41), [-1]), (head(4, *[1] * 41), [-1]), (head(4, 2), [-3]), (head(3), [-3]),
        ]
        for call, refusal in refused:
            with self.subTest(call=call):
                told = ask(*before, *looks, call, *looks)
                self.assertEqual(told[8], refusal)
                self.assertEqual(told[9:], told[4:8])


if __name__ == "__main__":
    unittest.main()
