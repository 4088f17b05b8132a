"""What form promises: the one form of the word's braid; or -2, or -3."""

import itertools
import unittest

from helpers import (
    ALL_N, GREATEST, LEAST, NO_N, WAYS, Choices, NothingChangedNothingKept, RefusesWhatIsNoWord, after_steps, cut, lace,
    letters_of, mixed_word, opposite, parameters, spelled, spelled_row, the_turn, within)
from strandforms.crossings import form


def formed(n, word):
    """The form with no bound that matters: its turns and its rows."""
    answer = form(n, GREATEST, word)
    rows = cut(n, answer[2:])
    if len(rows) != answer[0]:
        raise AssertionError(f"{answer[0]} rows are told, {len(rows)} are there")
    return answer[1], rows


def crossed(row, i):
    row = list(row)
    row[i - 1], row[i] = row[i], row[i - 1]
    return row


def ends_with(row):
    return {i for i in range(1, len(row)) if row[i - 1] > row[i]}


def begins_with(row):
    return {i for i in range(1, len(row)) if row.index(i) < row.index(i - 1)}


class FormCase(unittest.TestCase):
    def check_is_form(self, n, rows):
        none = list(range(n))
        for row in rows:
            self.assertEqual(sorted(row), none)
            self.assertNotEqual(row, none)
            self.assertNotEqual(row, the_turn(n))
        for first, second in zip(rows, rows[1:]):
            self.assertLessEqual(begins_with(second), ends_with(first))

    def check(self, n, word):
        """By a form's own words: it is one, and it means the word's braid. There is one such alone."""
        turns, rows = formed(n, word)
        self.check_is_form(n, rows)
        self.assertEqual(lace(n, spelled(n, turns, rows)), lace(n, word), (n, word[:20]))
        return turns, rows


class ByHand(FormCase):
    def test_the_empty_word(self):
        for n in ALL_N:
            self.assertEqual(form(n, 4096, []), [0, 0])

    def test_one_letter_above_0(self):
        self.assertEqual(form(3, 9, [1]), [1, 0, 1, 0, 2])
        self.assertEqual(form(3, 9, [2]), [1, 0, 0, 2, 1])
        for n in range(3, 17):
            for i in range(1, n):
                self.assertEqual(form(n, 9, [i]), [1, 0] + crossed(range(n), i))

    def test_one_letter_below_0(self):
        self.assertEqual(form(3, 9, [-1]), [1, -1, 1, 2, 0])
        self.assertEqual(form(3, 9, [-2]), [1, -1, 2, 0, 1])
        self.assertEqual(form(4, 9, [-1]), [1, -1, 2, 3, 1, 0])
        self.assertEqual(form(4, 9, [-2]), [1, -1, 3, 1, 2, 0])
        self.assertEqual(form(4, 9, [-3]), [1, -1, 3, 2, 0, 1])
        for n in range(3, 17):
            for i in range(1, n):
                self.assertEqual(form(n, 9, [-i]), [1, -1] + crossed(the_turn(n), i))

    def test_two_strands_have_turns_alone(self):
        self.assertEqual(form(2, 0, [1]), [0, 1])
        self.assertEqual(form(2, 0, [-1]), [0, -1])
        self.assertEqual(form(2, 0, [1, 1, 1]), [0, 3])
        self.assertEqual(form(2, 0, [-1, -1]), [0, -2])
        self.assertEqual(form(2, 5, [1, -1, -1, -1, 1]), [0, -1])
        self.assertEqual(form(2, 0, [-1, 1]), [0, 0])
        self.assertEqual(form(2, 0, [1] * 4096), [0, 4096])
        self.assertEqual(form(2, 0, [-1] * 4096), [0, -4096])

    def test_turns_of_three_strands(self):
        self.assertEqual(form(3, 0, [1, 2, 1]), [0, 1])
        self.assertEqual(form(3, 0, [2, 1, 2]), [0, 1])
        self.assertEqual(form(3, 0, [-1, -2, -1]), [0, -1])
        self.assertEqual(form(3, 0, [1, 2, 1, 1, 2, 1]), [0, 2])
        self.assertEqual(form(3, 0, [1, 2, 1, 2, 1, 2]), [0, 2])
        self.assertEqual(form(3, 0, [1, 2] * 6), [0, 4])
        self.assertEqual(form(3, 0, [-2, -1] * 6), [0, -4])
        self.assertEqual(form(3, 0, [1, 2, 1, -1, -2, -1]), [0, 0])
        self.assertEqual(form(3, 0, [1, 2, 1, -2, -1, -2]), [0, 0])

    def test_turns_for_every_n(self):
        for n in ALL_N:
            turn = spelled_row(the_turn(n))
            for turns in (1, 2, 3, 8):
                self.assertEqual(form(n, 0, turn * turns), [0, turns])
                self.assertEqual(form(n, 0, opposite(turn) * turns), [0, -turns])
                self.assertEqual(form(n, 0, turn * turns + opposite(turn)), [0, turns - 1])
                self.assertEqual(form(n, 0, opposite(turn) * turns + turn), [0, 1 - turns])

    def test_a_letter_beside_turns(self):
        # A turn is ahead of the rows, so a letter that it passes changes sides.
        for n in range(3, 17):
            turn = spelled_row(the_turn(n))
            for i in range(1, n):
                self.assertEqual(form(n, 1, turn + [i]), [1, 1] + crossed(range(n), i))
                self.assertEqual(form(n, 1, [i] + turn), [1, 1] + crossed(range(n), n - i))
                self.assertEqual(form(n, 1, [i] + turn * 2), [1, 2] + crossed(range(n), i))
                self.assertEqual(form(n, 1, [i] + opposite(turn)), [1, -1] + crossed(range(n), n - i))
                self.assertEqual(form(n, 1, turn + [-i]), [1, 0] + crossed(the_turn(n), i))
                self.assertEqual(form(n, 1, [-i] + turn), [1, 0] + crossed(the_turn(n), n - i))

    def test_several_rows(self):
        self.assertEqual(form(3, 9, [1, 1]), [2, 0, 1, 0, 2, 1, 0, 2])
        self.assertEqual(form(3, 9, [1, 2]), [1, 0, 1, 2, 0])
        self.assertEqual(form(3, 9, [1, 1, 2, 2]), [3, 0, 1, 0, 2, 1, 2, 0, 0, 2, 1])
        self.assertEqual(form(3, 9, [2, 2, 1, 1]), [3, 0, 0, 2, 1, 2, 0, 1, 1, 0, 2])
        self.assertEqual(form(3, 9, [1, -2]), [2, -1, 0, 2, 1, 2, 0, 1])
        self.assertEqual(form(4, 9, [1, 1, 3]), [2, 0, 1, 0, 3, 2, 1, 0, 2, 3])
        self.assertEqual(form(4, 9, [1, 1, 3, 3, 3]), [3, 0, 1, 0, 3, 2, 1, 0, 3, 2, 0, 1, 3, 2])

    def test_as_many_rows_as_letters(self):
        for n in range(3, 17):
            self.assertEqual(form(n, 9, [1] * 9), [9, 0] + crossed(range(n), 1) * 9)
            self.assertEqual(form(n, 9, [n - 1] * 9), [9, 0] + crossed(range(n), n - 1) * 9)

    def test_every_row_by_itself(self):
        for n in (3, 4, 5):
            for row in itertools.permutations(range(n)):
                word = spelled_row(row)
                if len(word) == 0:
                    self.assertEqual(form(n, 1, word), [0, 0])
                elif list(row) == the_turn(n):
                    self.assertEqual(form(n, 1, word), [0, 1])
                else:
                    self.assertEqual(form(n, 1, word), [1, 0] + list(row))


class AForm(FormCase):
    def test_every_short_word(self):
        for n, longest in ((2, 6), (3, 5), (4, 4), (5, 3)):
            for length in range(longest + 1):
                for word in itertools.product(letters_of(n), repeat=length):
                    self.check(n, list(word))

    def test_short_words_with_one_lace_have_one_form(self):
        for n, longest in ((3, 6), (4, 4)):
            by_lace = {}
            by_form = {}
            for length in range(longest + 1):
                for word in itertools.product(letters_of(n), repeat=length):
                    told = tuple(form(n, 4096, list(word)))
                    numbers = tuple(lace(n, word))
                    self.assertEqual(by_lace.setdefault(numbers, told), told)
                    self.assertEqual(by_form.setdefault(told, numbers), numbers)

    def test_mixed_words_for_every_n(self):
        for n in ALL_N:
            for length in (5, 20, 60, 150):
                word = mixed_word(n, length, 31 * n + length)
                self.check(n, word)
                self.check(n, [abs(letter) for letter in word])
                self.check(n, [-abs(letter) for letter in word])

    def test_words_on_few_of_the_strands(self):
        for n in (6, 9, 16):
            low = mixed_word(3, 40, n)
            high = [letter + (n - 3 if letter > 0 else 3 - n) for letter in mixed_word(3, 40, n + 1)]
            self.check(n, low)
            self.check(n, high)
            self.assertEqual(self.check(n, low + high), self.check(n, high + low))
            together = [letter for both in zip(low, high) for letter in both]
            self.assertEqual(formed(n, together), formed(n, low + high))

    def test_the_form_of_what_is_spelled_from_a_form_is_that_form(self):
        for n in ALL_N:
            for length in (10, 30):
                turns, rows = formed(n, mixed_word(n, length, 17 * n + length))
                word = spelled(n, turns, rows)
                self.assertLessEqual(len(word), 4096)
                self.assertEqual(formed(n, word), (turns, rows))

    def test_a_form_that_was_not_made_from_a_word(self):
        # Rows that are put together so that they are a form are found again, with any turns.
        for n, many in ((3, 12), (4, 12), (6, 8), (16, 5)):
            choices = Choices(n)
            rows = []
            while len(rows) < many:
                row = list(range(n))
                for _ in range(choices.below(n * n)):
                    row = crossed(row, 1 + choices.below(n - 1))
                if row in (list(range(n)), the_turn(n)):
                    continue
                if rows and not begins_with(row) <= ends_with(rows[-1]):
                    row = crossed(range(n), choices.one_of(sorted(ends_with(rows[-1]))))
                rows.append(row)
            self.check_is_form(n, rows)
            for turns in (-3, -2, -1, 0, 1, 2):
                word = spelled(n, turns, rows)
                self.assertEqual(formed(n, word), (turns, rows))


class TheSameBraid(FormCase):
    def test_each_way_by_itself(self):
        for n in ALL_N:
            choices = Choices(n)
            for way in WAYS:
                for _ in range(6):
                    word = mixed_word(n, 25, choices.below(100000))
                    self.assertEqual(formed(n, way(n, word, choices)), formed(n, word), way.__name__)

    def test_many_steps(self):
        for n in ALL_N:
            word = mixed_word(n, 30, n)
            told = formed(n, word)
            for seed in range(4):
                self.assertEqual(formed(n, after_steps(n, word, 60, seed)), told)

    def test_a_letter_and_its_opposite_anywhere(self):
        for n in (2, 3, 5, 16):
            word = mixed_word(n, 12, n)
            told = formed(n, word)
            for at in range(len(word) + 1):
                for letter in letters_of(n):
                    self.assertEqual(formed(n, word[:at] + [letter, -letter] + word[at:]), told)

    def test_neighbours_whose_places_are_apart(self):
        for n in (4, 5, 16):
            ahead = mixed_word(n, 8, n)
            behind = mixed_word(n, 8, n + 1)
            for one in letters_of(n):
                for other in letters_of(n):
                    if abs(abs(one) - abs(other)) >= 2:
                        self.assertEqual(formed(n, ahead + [one, other] + behind),
                                         formed(n, ahead + [other, one] + behind))

    def test_i_and_i_plus_1_and_i(self):
        for n in range(3, 17):
            ahead = mixed_word(n, 8, n)
            behind = mixed_word(n, 8, n + 1)
            for i in range(1, n - 1):
                for one, other in (([i, i + 1, i], [i + 1, i, i + 1]),
                                   ([-i, -i - 1, -i], [-i - 1, -i, -i - 1]),
                                   ([i, i + 1, -i], [-i - 1, i, i + 1]),
                                   ([-i, i + 1, i], [i + 1, i, -i - 1])):
                    self.assertEqual(formed(n, ahead + one + behind), formed(n, ahead + other + behind))

    def test_a_word_and_then_its_opposite(self):
        for n in ALL_N:
            for length in (1, 2, 7, 100):
                word = mixed_word(n, length, n + length)
                self.assertEqual(form(n, 0, word + opposite(word)), [0, 0])
                self.assertEqual(form(n, 0, opposite(word) + word), [0, 0])


class OtherBraids(FormCase):
    def test_places_and_sums_the_same(self):
        self.assertNotEqual(formed(3, [1, 1, 2, 2]), formed(3, [2, 2, 1, 1]))
        self.assertNotEqual(formed(3, [1, 2, -1]), formed(3, [-1, 2, 1]))
        self.assertNotEqual(formed(4, [1, 1, 2, 2, 3, 3]), formed(4, [3, 3, 2, 2, 1, 1]))
        self.assertNotEqual(formed(3, [1, 1, 2, 2, -1, -1, -2, -2]), formed(3, []))

    def test_a_letter_and_its_opposite_are_not_the_same(self):
        for n in ALL_N:
            for i in range(1, n):
                self.assertNotEqual(formed(n, [i]), formed(n, [-i]))
                self.assertNotEqual(formed(n, [i, i]), formed(n, []))

    def test_what_is_only_nearly_a_way(self):
        self.assertNotEqual(formed(3, [1, -2, 1]), formed(3, [-2, 1, -2]))
        self.assertNotEqual(formed(3, [1, 2]), formed(3, [2, 1]))
        self.assertNotEqual(formed(4, [1, 3, 1]), formed(4, [3, 1, 3]))


class Most(unittest.TestCase):
    def test_no_row(self):
        self.assertEqual(form(3, 0, []), [0, 0])
        self.assertEqual(form(3, 0, [1, -1]), [0, 0])
        self.assertEqual(form(3, 0, [1, 2, 1]), [0, 1])

    def test_one_row(self):
        self.assertEqual(form(3, 0, [1]), [-3])
        self.assertEqual(form(3, 0, [-2]), [-3])
        self.assertEqual(form(3, 1, [1]), [1, 0, 1, 0, 2])

    def test_just_as_many_and_one_fewer(self):
        for n in range(3, 17):
            for length in (6, 50):
                word = mixed_word(n, length, n)
                whole = form(n, GREATEST, word)
                many = whole[0]
                self.assertGreater(many, 0)
                self.assertEqual(form(n, many, word), whole)
                self.assertEqual(form(n, many + 1, word), whole)
                self.assertEqual(form(n, many - 1, word), [-3])
                self.assertEqual(form(n, 0, word), [-3])

    def test_turns_are_not_counted(self):
        turn = [1, 2, 1]
        self.assertEqual(form(3, 1, turn * 5 + [1]), [1, 5, 1, 0, 2])
        self.assertEqual(form(3, 1, opposite(turn) * 5 + [1]), [1, -5, 1, 0, 2])

    def test_the_greatest_bound(self):
        self.assertEqual(form(3, GREATEST, [1]), [1, 0, 1, 0, 2])

    def test_below_0(self):
        for most in (-1, -2, -3, -4096, LEAST):
            for n, word in ((2, []), (3, []), (3, [1]), (3, [1, 2, 1]), (16, mixed_word(16, 50, 1))):
                self.assertEqual(form(n, most, word), [-2])

    def test_minus_2_before_minus_3(self):
        self.assertEqual(form(3, 0, [1, 3]), [-2])
        self.assertEqual(form(3, 0, [1, 0]), [-2])
        self.assertEqual(form(3, -1, [1, 3]), [-2])
        self.assertEqual(form(3, LEAST, [0]), [-2])
        for n in NO_N:
            for most in (LEAST, -1, 0, 1, GREATEST):
                self.assertEqual(form(n, most, []), [-2])


class LongWords(FormCase):
    def test_4096_letters_of_either_sign(self):
        for n in (3, 7, 16):
            word = mixed_word(n, 4096, n)
            with within(60):
                turns, rows = formed(n, word)
            self.check_is_form(n, rows)
            self.assertEqual(lace(n, spelled(n, turns, rows)), lace(n, word))

    def test_4096_letters_of_one_sign(self):
        above = [abs(letter) for letter in mixed_word(16, 4096, 5)]
        with within(60):
            turns, rows = formed(16, above)
        self.check_is_form(16, rows)
        self.assertEqual(lace(16, spelled(16, turns, rows)), lace(16, above))
        below = [-letter for letter in above]
        with within(60):
            turns, rows = formed(16, below)
        self.check_is_form(16, rows)
        self.assertEqual(lace(16, spelled(16, turns, rows)), lace(16, below))

    def test_letters_that_pass_many_rows(self):
        with within(120):
            turns, rows = formed(16, [1] * 2048 + [-3] * 2048)
        self.assertEqual(turns, -2048)
        self.assertEqual(len(rows), 4096)
        self.check_is_form(16, rows)
        with within(120):
            self.assertEqual(formed(16, [-3] * 2048 + [1] * 2048), (turns, rows))

    def test_a_long_word_and_then_its_opposite(self):
        word = mixed_word(16, 2048, 9)
        with within(60):
            self.assertEqual(form(16, 0, word + opposite(word)), [0, 0])

    def test_a_long_word_after_many_steps(self):
        word = mixed_word(16, 1500, 10)
        other = after_steps(16, word, 1000, 11)
        self.assertNotEqual(other, word)
        with within(60):
            self.assertEqual(formed(16, other), formed(16, word))


class Refusals(RefusesWhatIsNoWord, unittest.TestCase):
    def ask(self, n, word):
        return form(n, 4096, word)


class HandedIn(NothingChangedNothingKept, unittest.TestCase):
    call = staticmethod(form)
    CALLS = (
        (3, 5, [1, -2, 1]),
        (3, 0, []),
        (16, 300, mixed_word(16, 200, 1)),
        (16, 300, mixed_word(16, 200, 2)),
        (2, 0, [-1, -1, -1]),
        (3, 2, [1, 1, 2, 2]),
        (3, -1, [1, 2]),
        (3, 5, [1, 3, 2]),
        (5, 5, [1, 4, -5]),
        (1, 5, []),
        (17, 5, []),
    )


class TheInterface(unittest.TestCase):
    def test_the_names_of_the_arguments(self):
        self.assertEqual(form(n=3, most=1, w=[1]), [1, 0, 1, 0, 2])
        self.assertEqual(parameters(form), ("n", "most", "w"))
        self.assertEqual(form.__module__, "strandforms.crossings")


if __name__ == "__main__":
    unittest.main()
