"""A row that's read again: unpack."""

import itertools
import unittest

from tests import model
from tests.asking import (
    LARGEST, add, adds, after, ask, ask_last, ask_many, have, made_words, number, out, pack, size, state, unpack, word,
)

LOOKS = [pack(d) for d in (1, 2, 3, 4)]
SIXTY = [(1 + n // 26, 1 + n % 26, 7) for n in range(60)]
NINE = (1, 2, 3, 4, 5, 6, 7, 8, 9)


def told_row(words):
    row = model.row(words)
    return [len(row), *row]


def fan(links, ends=False):
    """A first state with these links, and one behind it where a word may end."""
    return [2 * len(links) + (1 if ends else 0), *itertools.chain(*links), 1]


class Read(unittest.TestCase):
    def expect(self, row, words):
        told = ask(unpack(2, row), pack(2), *[word(2, n) for n in range(min(30, len(words) + 1))])
        self.assertEqual(told[:2], [[len(words)], [len(row), *row]])
        self.assertEqual(told[2:2 + len(words)], [[len(letters), *letters] for letters in words][:30])

    def test_rows_written_out(self):
        self.expect([], [])
        self.expect([2, 1, 1, 1], [(1,)])
        self.expect([2, 26, 1, 1], [(26,)])
        self.expect([4, 1, 1, 2, 1, 1], [(1,), (2,)])
        self.expect([2, 1, 1, 3, 2, 2, 1], [(1,), (1, 2)])
        self.expect([4, 1, 1, 3, 1, 2, 2, 2, 1], [(1, 2), (3, 2)])
        self.expect([4, 1, 1, 3, 2, 2, 2, 2, 1], [(1, 2), (3,)])
        self.expect(fan([(n, 1) for n in range(1, 27)]), [(n,) for n in range(1, 27)])

    def test_a_word_of_8_letters(self):
        self.expect([2, 8, 1, 2, 7, 2, 2, 6, 3, 2, 5, 4, 2, 4, 5, 2, 3, 6, 2, 2, 7, 2, 1, 8, 1], [NINE[7::-1]])

    def test_60_words(self):
        self.expect(model.row(SIXTY), SIXTY)
        told = ask(have(1, SIXTY), size(1), add(1, 9), add(1, *SIXTY[0]), out(1, *SIXTY[0]), add(1, 9), add(1, 8))
        self.assertEqual(told[:1] + told[2:], [[60], [-5], [-4], [59], [60], [-5]])

    def test_what_d_had_is_gone(self):
        told = ask(*adds(1, [(1,), (5, 6)]), unpack(1, [2, 7, 1, 1]), pack(1), number(1, 1), number(1, 7))
        self.assertEqual(told[2:], [[1], [4, 2, 7, 1, 1], [-3], [0]])

    def test_d_had_60_words(self):
        told = ask(have(1, SIXTY), unpack(1, [2, 7, 1, 1]), have(1, SIXTY[1:]), have(1, SIXTY))
        self.assertEqual(told, [[60], [1], [59], [60]])

    def test_the_empty_row_is_that_of_a_dictionary_without_words(self):
        told = ask(unpack(1, []), add(1, 1), unpack(1, []), size(1), pack(1), state(1), after(1), number(1, 1))
        self.assertEqual(told, [[0], [1], [0], [0, 0, 0], [0], [-3], [-3], [-3]])

    def test_words_come_and_go_behind_it(self):
        told = ask(have(1, [(1, 2), (3, 2)]), add(1, 2), out(1, 3, 2), number(1, 2), pack(1))
        self.assertEqual(told, [[2], [3], [2], [1], told_row([(1, 2), (2,)])])

    def test_each_dictionary_keeps_its_own_words(self):
        row = model.row([(1, 2), (3, 2)])
        told = ask(unpack(1, row), unpack(4, row), add(1, 9), out(4, 1, 2), *LOOKS)
        self.assertEqual(told[4:], [told_row([(1, 2), (3, 2), (9,)]), [0], [0], told_row([(3, 2)])])


class ReadAgain(unittest.TestCase):
    def hold(self, words):
        told = ask(have(1, words[:-30]), *adds(1, words[-30:]), pack(1))[-1]
        self.assertEqual(told[0], len(told) - 1)
        again = ask(unpack(3, told[1:]), pack(3), unpack(3, told[1:]), unpack(2, told[1:]), pack(2), size(3), pack(1))
        many = [len(words)]
        self.assertEqual(again, [many, told, many, many, told, model.size(words), [0]])
        ordered = model.in_order(words)
        calls = [call for n, letters in enumerate(ordered) for call in (word(3, n), number(3, *letters))]
        expected = [answer for n, letters in enumerate(ordered) for answer in ([len(letters), *letters], [n])]
        self.assertEqual(ask_many(calls, before=[unpack(3, told[1:])]), expected)

    def test_rows_that_pack_gives(self):
        self.hold([])
        self.hold([(1,)])
        self.hold([NINE[:n] for n in range(1, 9)])
        for seed in range(12):
            self.hold(made_words(seed, 1 + 5 * seed, (1, 2), 8))
            self.hold(made_words(seed, 60, (1, 2, 3), 8))
            self.hold(made_words(seed, 60, range(1, 27), 8))

    def test_in_the_same_dictionary(self):
        words = made_words(5, 20, (1, 2, 3), 8)
        row = ask_last(*adds(1, words), pack(1))
        told = ask(*adds(1, words), pack(1), unpack(1, row[1:]), pack(1))
        self.assertEqual(told[20:], [row, [20], row])


class Refused(unittest.TestCase):
    """Each row is refused as told, and all is as it was behind it."""

    def refused(self, row, refusal, d=2):
        before = [add(1, 1), add(2, 1, 2), add(2, 3), add(4, 5)]
        told = ask(*before, *LOOKS, unpack(d, row), *LOOKS, add(2, 9), unpack(3, row))
        self.assertEqual(told[8], [refusal], row)
        self.assertEqual(told[9:13], told[4:8], row)
        self.assertEqual(told[13], [3], row)
        if d in (1, 2, 3, 4):
            self.assertEqual(told[14], [refusal], row)


class NotCutIntoStates(Refused):
    def test_the_row_ends_in_the_middle_of_a_state(self):
        for row in ([2], [3], [2, 1], [3, 1], [4, 1, 1], [4, 1, 1, 2], [2, 1, 1, 2], [2, 1, 1, 3, 1], [1, 2], [0, 2, 5]):
            self.refused(row, -1)

    def test_each_row_that_is_cut_off(self):
        row = model.row(made_words(3, 12, (1, 2, 3), 4))
        for many in range(len(row) + 1):
            self.assertEqual(ask_last(unpack(1, row[:many])), model.unpack(row[:many]))

    def test_a_count_of_letters_far_greater_than_the_row(self):
        for many in (100, 2000, 2001, LARGEST - 1, LARGEST):
            self.refused([many], -1)
            self.refused([many, 1, 1, 1], -1)
            self.refused([2, 1, 1, many], -1)
            self.refused([2, 1, 1, 1, many, 1], -1)

    def test_a_count_just_at_and_just_above_what_is_there(self):
        self.refused([6, 1, 1, 2, 1, 3, 1], -7)
        self.refused([7, 1, 1, 2, 1, 3, 1], -7)
        self.refused([8, 1, 1, 2, 1, 3, 1], -1)
        self.refused([9, 1, 1, 2, 1, 3, 1], -1)

    def test_rows_of_2000_numbers_and_more(self):
        for many, refusal in ((1999, -7), (2000, -7), (2001, -1), (2100, -1)):
            self.refused([0] * many, refusal)
            self.refused([1] * many, refusal)
            self.refused([2, 1, 1] + [1] * (many - 3), refusal)
        self.refused([0] * 1999 + [2], -1)
        self.refused([0] * 1999 + [1], -7)
        self.refused([2 * 999, *[1, 0] * 999, 0], -7)
        self.refused([2 * 1000, *[1, 0] * 999, 0], -1)
        self.refused([2 * 1000, *[1, 0] * 1000], -1)

    def test_no_dictionary(self):
        for d in (0, 5, LARGEST):
            for row in ([], [2, 1, 1, 1], [2], [1], [0] * 2001, fan([(1, 1)] * 61), fan([(1, 1)] * 60)):
                self.refused(row, -1, d)

    def test_it_is_told_first(self):
        too_many = fan([(1, 1)] * 61)
        self.refused(too_many, -5)
        self.refused(too_many + [2], -1)
        self.refused(too_many + [2, 5], -1)
        self.refused(too_many + [2, 5, 0], -5)
        self.refused(too_many + [LARGEST], -1)
        self.refused(too_many + [0] * (2000 - len(too_many)), -5)
        self.refused(too_many + [0] * (2001 - len(too_many)), -1)
        self.refused([1, 2], -1)
        self.refused([2, 0, 1, 2], -1)


class TooMany(Refused):
    def test_61_words(self):
        self.refused(model.row(SIXTY + [(3, 9)]), -5)
        self.refused(model.row(SIXTY + [(9, 9, 9, 9, 9, 9, 9, 9)]), -5)
        self.refused(model.row([(a, b) for a in range(1, 27) for b in range(1, 27)]), -5)

    def test_exactly_60_and_61_where_it_is_no_row_either(self):
        self.refused(fan([(1, 1)] * 60), -7)
        self.refused(fan([(1, 1)] * 61), -5)
        self.refused(fan([(n, 1) for n in range(60)]), -7)
        self.refused(fan([(n, 1) for n in range(61)]), -5)
        self.refused(fan([(LARGEST - n, 1) for n in range(60)]), -7)
        self.refused(fan([(LARGEST - n, 1) for n in range(61)]), -5)

    def test_the_row_of_no_letters_counts(self):
        self.refused(fan([(1, 1)] * 59, ends=True), -7)
        self.refused(fan([(1, 1)] * 60, ends=True), -5)

    def test_a_state_that_is_not_there_leads_nowhere(self):
        for behind in (2, 3, 100, LARGEST):
            self.refused(fan([(1, behind)] * 61), -7)
            self.refused(fan([(1, 1)] * 60 + [(1, behind)]), -7)
            self.refused(fan([(1, 1)] * 61 + [(1, behind)]), -5)

    def test_states_that_nothing_leads_to_count_not(self):
        self.refused([2, 1, 1, 1, *fan([(n, 1) for n in range(61)])], -7)

    def test_the_first_state_told_is_the_first(self):
        self.refused([0, *fan([(n, 1) for n in range(1, 62)])], -7)

    def test_states_that_lead_back(self):
        # The second state leads to itself: from each letter that leads to it there are 8 rows of letters.
        self.refused(fan([(1, 1)] * 7 + [(1, 2)] * 4)[:-1] + [3, 1, 1, 1], -7)
        self.refused(fan([(1, 1)] * 7 + [(1, 2)] * 5)[:-1] + [3, 1, 1, 1], -5)
        # From the first state to itself: 9 rows of letters; twice so: 511.
        self.refused([3, 1, 0], -7)
        self.refused([5, 1, 0, 2, 0], -5)
        # There in two ways, back in one: 2 + 4 + 8 + 16 rows end at the second, 1 + 2 + 4 + 8 + 16 at the first.
        self.refused([4, 1, 1, 2, 1, 3, 1, 0], -7)
        self.refused([5, 1, 1, 2, 1, 3, 1, 0], -5)

    def test_rows_of_9_letters_count_not(self):
        chain = [2, 1, 1, 2, 1, 2, 2, 1, 3, 2, 1, 4, 2, 1, 5, 2, 1, 6, 2, 1, 7]
        # 60 and 61 ways to go the last step: behind 8 letters they count, behind 9 not.
        self.refused(chain + [120, *[1, 8] * 60, 1], -7)
        self.refused(chain + [122, *[1, 8] * 61, 1], -5)
        self.refused(chain + [2, 1, 8, 122, *[1, 9] * 61, 1], -7)

    def test_60_words_and_one_of_9_letters(self):
        self.refused(model.row(SIXTY + [NINE]), -7)
        self.refused(model.row(SIXTY[:59] + [NINE]), -7)
        self.refused(model.row(SIXTY + [NINE[:8]]), -5)

    def test_no_end_in_sight(self):
        self.refused([2 * 61, *[1, 0] * 61], -7)
        self.refused([2 * 61, *[1, 1] * 61, 0], -7)


class NoRow(Refused):
    def test_the_same_letter_twice(self):
        self.refused([4, 1, 1, 1, 1, 1], -7)
        self.refused([4, 1, 1, 1, 2, 2, 2, 2, 1], -7)
        self.refused([2, 1, 1, 4, 2, 2, 2, 2, 1], -7)

    def test_letters_out_of_order(self):
        self.refused([4, 2, 1, 1, 1, 1], -7)
        self.refused([6, 1, 1, 3, 1, 2, 1, 1], -7)
        self.refused([2, 1, 1, 5, 9, 2, 8, 2, 1], -7)

    def test_letters_that_are_none(self):
        for letter in (0, 27, 28, 100, LARGEST):
            self.refused([2, letter, 1, 1], -7)
            self.refused([2, 1, 1, 2, letter, 2, 1], -7)
            self.refused(fan(sorted([(1, 1), (letter, 1)])), -7)

    def test_a_state_that_is_not_there(self):
        for behind in (2, 3, LARGEST):
            self.refused([2, 1, behind, 1], -7)
            self.refused([4, 1, 1, 2, behind, 1], -7)
            self.refused([2, 1, 1, 3, 2, behind], -7)
        self.refused([2, 1, 1], -7)
        self.refused([2, 1, LARGEST], -7)

    def test_a_state_that_no_letters_lead_to(self):
        self.refused([2, 1, 1, 1, 1], -7)
        self.refused([2, 1, 1, 1, 0], -7)
        self.refused([2, 1, 1, 1, 2, 5, 1], -7)
        self.refused([2, 1, 2, 1, 1], -7)

    def test_a_state_from_which_no_word_is_reached(self):
        self.refused([0], -7)
        self.refused([0, 0], -7)
        self.refused([2, 1, 1, 0], -7)
        self.refused([4, 1, 1, 2, 2, 1, 0], -7)
        self.refused([4, 1, 1, 2, 2, 1, 2, 3, 2], -7)
        self.refused([2, 1, 1, 3, 1, 2, 0], -7)

    def test_two_states_that_are_alike(self):
        self.refused([4, 1, 1, 2, 2, 1, 1], -7)
        self.refused([4, 1, 1, 2, 2, 2, 5, 3, 2, 5, 3, 1], -7)
        self.refused([2, 1, 1, 3, 2, 2, 3, 3, 3, 1, 1], -7)

    def test_states_in_another_order(self):
        self.refused([4, 1, 2, 3, 1, 1, 2, 2, 1], -7)
        self.refused([1, 2, 1, 0], -7)
        self.refused([4, 1, 1, 2, 2, 2, 1, 3, 2, 9, 4, 2, 1, 4, 1], -7)

    def test_states_that_lead_back(self):
        self.refused([2, 1, 0], -7)
        self.refused([3, 1, 0], -7)
        self.refused([2, 1, 1, 2, 1, 0], -7)
        self.refused([2, 1, 1, 3, 1, 0], -7)
        self.refused([2, 1, 1, 3, 1, 1], -7)
        self.refused([4, 1, 0, 2, 1, 1], -7)
        self.refused([2, 1, 1, 2, 1, 2, 3, 1, 1], -7)

    def test_a_word_may_end_at_the_first_state(self):
        self.refused([1], -7)
        self.refused([1, 1], -7)
        self.refused([3, 1, 1, 1], -7)
        self.refused([5, 1, 1, 2, 1, 1], -7)

    def test_words_of_9_letters(self):
        self.refused(model.row([NINE]), -7)
        self.refused(model.row([NINE, (1,)]), -7)
        self.refused(model.row([NINE, NINE[:8]]), -7)
        self.refused(model.row([(1,) * 30]), -7)

    def test_one_more_state_or_number_behind_a_row(self):
        row = model.row([(1, 2), (3, 2)])
        self.refused(row + [0], -7)
        self.refused(row + [1], -7)
        self.refused(row + row, -7)


class InTime(Refused):
    """To go through each row of letters alone would take very long here; what takes too long fails as it's asked."""

    def test_very_many_rows_of_letters(self):
        self.refused([1999, *[1, 0] * 999], -5)
        self.refused([1999, *itertools.chain(*[(n, 0) for n in range(999)])], -5)

    def test_very_many_that_lead_to_no_end(self):
        self.refused([1998, *[1, 0] * 999], -7)
        self.refused([1998, *[1, 1] * 999, 0], -7)

    def test_very_many_that_lead_to_no_end_beside_a_few_that_do(self):
        self.refused([2 + 800, 1, 1, *[2, 2] * 400, 1, 800, *[1, 2] * 400], -7)

    def test_very_many_that_lead_to_an_end_too_late(self):
        wide = []
        for n in range(1, 10):
            wide += [200, *[1, n] * 100]
        self.assertEqual(len(wide), 9 * 201)
        self.refused(wide + [1], -7)
        self.refused([2 + 200, 1, 9, *[1, 1] * 100, *wide[201:], 1], -7)

    def test_very_many_that_lead_to_an_end_just_in_time(self):
        wide = []
        for n in range(1, 9):
            wide += [200, *[1, n] * 100]
        self.refused(wide + [1], -5)

    def test_a_very_long_chain(self):
        chain = []
        for n in range(1, 666):
            chain += [2, 1, n]
        self.refused(chain + [1], -7)

    def test_a_list_full_of_them(self):
        rows = ([1999, *[1, 0] * 999], [1998, *[1, 0] * 999], [2 + 800, 1, 1, *[2, 2] * 400, 1, 800, *[1, 2] * 400])
        told = ask(*[unpack(1, rows[n % 3]) for n in range(14)])
        self.assertEqual(told, ([[-5], [-7], [-7]] * 5)[:14])


class AgainstTheDefinitions(unittest.TestCase):
    def hold(self, rows, expected):
        rows = list(rows)
        told = ask_many([unpack(1, row) for row in rows])
        wrong = [(row, one, expected(row)) for row, one in zip(rows, told) if one != expected(row)]
        self.assertEqual((len(told), wrong), (len(rows), []))

    def test_all_short_rows(self):
        """No row of so few numbers is that of a dictionary but these."""
        words = [letters for n in (1, 2) for letters in itertools.product(range(1, 6), repeat=n)]
        known = {tuple(model.row(chosen)): [len(chosen)] for n in (0, 1, 2) for chosen in itertools.combinations(words, n)}

        def expected(row):
            if row in known:
                return known[row]
            states = model.cut(row)
            if states is None:
                return [-1]
            return [-5] if model.count_ends(states) > 60 else [-7]

        for many in range(6):
            self.hold(itertools.product(range(6), repeat=many), expected)
        self.hold(itertools.product(range(5), repeat=6), expected)
        self.hold(itertools.product(range(4), repeat=7), expected)

    def test_rows_with_a_number_changed(self):
        for seed in range(6):
            row = model.row(made_words(seed, 6 + seed, (1, 2, 3), 4))
            rows = []
            for place, own in enumerate(row):
                for other in {0, 1, 2, 3, 26, 27, LARGEST, own + 1, own + 2, max(0, own - 1), max(0, own - 2)} - {own}:
                    rows.append(row[:place] + [other] + row[place + 1:])
                rows.append(row[:place] + row[place + 1:])
                rows.append(row[:place] + [own] + row[place:])
                rows.append(row[:place] + row[place:place + 2][::-1] + row[place + 2:])
            self.hold(rows, model.unpack)

    def test_rows_of_made_states(self):
        for seed in range(40):
            made = made_words(seed, 60, (0, 1, 2, 3, 4), 12)
            rows = []
            for numbers in made:
                # Each three numbers make a state: whether a word may end there, and one or two links.
                row = []
                for first, second, third in zip(numbers[::3], numbers[1::3], numbers[2::3]):
                    row += [2 + first % 2, 1 + second % 2, third] if first < 3 else [4 + first % 2, 1, second, 2, third]
                rows.append(row + [1])
            self.hold(rows, model.unpack)


if __name__ == "__main__":
    unittest.main()
