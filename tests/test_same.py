"""What same promises: 1 where both words mean the same braid, else 0; or -2."""

import itertools
import unittest

from helpers import (
    ALL_N, NO_N, WAYS, Choices, NothingChangedNothingKept, RefusesWhatIsNoWord, Untouchable, after_steps, lace,
    letters_of, mixed_word, opposite, parameters, spelled_row, the_turn, within)
from strandforms.crossings import between, form, places, same, sum_of


class SameCase(unittest.TestCase):
    def check_same(self, n, w, v):
        self.assertEqual(same(n, w, v), [1], (n, w[:20], v[:20]))
        self.assertEqual(same(n, v, w), [1], (n, v[:20], w[:20]))

    def check_other(self, n, w, v):
        self.assertEqual(same(n, w, v), [0], (n, w[:20], v[:20]))
        self.assertEqual(same(n, v, w), [0], (n, v[:20], w[:20]))


class OneWord(SameCase):
    def test_a_word_and_itself(self):
        for n in ALL_N:
            for length in (1, 2, 30):
                word = mixed_word(n, length, n + length)
                self.check_same(n, word, list(word))
                self.assertEqual(same(n, word, word), [1])

    def test_both_empty(self):
        for n in ALL_N:
            self.check_same(n, [], [])

    def test_a_word_with_its_opposite_behind_it(self):
        for n in ALL_N:
            for length in (1, 2, 3, 40):
                word = mixed_word(n, length, 7 * n + length)
                self.check_same(n, word + opposite(word), [])
                self.check_same(n, opposite(word) + word, [])

    def test_one_letter(self):
        for n in ALL_N:
            for one in letters_of(n):
                self.check_other(n, [one], [])
                for other in letters_of(n):
                    self.assertEqual(same(n, [one], [other]), [1 if one == other else 0])


class OneStep(SameCase):
    def test_a_letter_and_its_opposite_anywhere(self):
        for n in (2, 3, 5, 16):
            word = mixed_word(n, 10, n)
            for at in range(len(word) + 1):
                for letter in letters_of(n):
                    self.check_same(n, word, word[:at] + [letter, -letter] + word[at:])

    def test_neighbours_whose_places_are_apart(self):
        for n in (4, 5, 16):
            ahead = mixed_word(n, 6, n)
            behind = mixed_word(n, 6, n + 1)
            for one in letters_of(n):
                for other in letters_of(n):
                    if abs(abs(one) - abs(other)) >= 2:
                        self.check_same(n, ahead + [one, other] + behind, ahead + [other, one] + behind)

    def test_i_and_i_plus_1_and_i(self):
        for n in range(3, 17):
            ahead = mixed_word(n, 8, n)
            behind = mixed_word(n, 8, n + 1)
            for i in range(1, n - 1):
                self.check_same(n, [i, i + 1, i], [i + 1, i, i + 1])
                self.check_same(n, ahead + [i, i + 1, i] + behind, ahead + [i + 1, i, i + 1] + behind)

    def test_each_way_in_mixed_words(self):
        for n in ALL_N:
            choices = Choices(n)
            for way in WAYS:
                for _ in range(5):
                    word = mixed_word(n, 25, choices.below(100000))
                    self.check_same(n, word, way(n, word, choices))

    def test_what_follows_from_the_ways(self):
        for i in (1, 2, 14):
            self.check_same(16, [-i, -i - 1, -i], [-i - 1, -i, -i - 1])
            self.check_same(16, [i, i + 1, -i], [-i - 1, i, i + 1])
            self.check_same(16, [i, -i - 1, -i], [-i - 1, -i, i + 1])


class ManySteps(SameCase):
    def test_each_way_many_times(self):
        for n in ALL_N:
            for way in WAYS:
                choices = Choices(n)
                word = mixed_word(n, 20, 3 * n)
                other = word
                for _ in range(25):
                    other = way(n, other, choices)
                self.check_same(n, word, other)

    def test_all_ways_many_times(self):
        for n in ALL_N:
            word = mixed_word(n, 30, 5 * n)
            for seed in range(3):
                self.check_same(n, word, after_steps(n, word, 60, seed))

    def test_words_of_different_lengths(self):
        self.check_same(2, [1, 1, -1, -1, -1], [-1])
        self.check_same(3, [1, 2, 1, -2, -1], [2])
        self.check_same(4, [1, 3, -1, 2, -2], [3])
        for n in ALL_N:
            word = mixed_word(n, 12, n)
            longer = mixed_word(n, 40, n + 1)
            self.check_same(n, longer + word + opposite(longer) + longer, longer + word)

    def test_two_turns_pass_every_letter(self):
        for n in ALL_N:
            turn = spelled_row(the_turn(n))
            for letter in letters_of(n):
                self.check_same(n, turn * 2 + [letter], [letter] + turn * 2)
                passed = n - letter if letter > 0 else -n - letter
                self.check_same(n, turn + [letter], [passed] + turn)


class NotTheSame(SameCase):
    def test_places_differ(self):
        self.check_other(3, [1], [2])
        self.check_other(3, [1, 2], [2, 1])
        self.check_other(3, [1, 2, -1], [])
        self.check_other(16, [1, 2, 3], [3, 2, 1])

    def test_places_the_same_and_sums_differ(self):
        self.check_other(2, [1], [-1])
        self.check_other(2, [1, 1], [])
        for n in ALL_N:
            word = mixed_word(n, 20, n)
            for at in (0, 7, 20):
                other = word[:at] + [1, 1] + word[at:]
                self.assertEqual(places(n, word), places(n, other))
                self.check_other(n, word, other)

    def test_other_turns_with_the_same_rows(self):
        for n in range(3, 17):
            turn = spelled_row(the_turn(n))
            self.assertEqual(form(n, 1, turn * 2 + [1])[2:], form(n, 1, [1])[2:])
            self.check_other(n, turn * 2 + [1], [1])
            self.check_other(n, opposite(turn) * 2 + [1], [1])
            self.check_other(n, turn, opposite(turn))

    def test_the_same_turns_with_other_rows(self):
        for n in range(3, 17):
            turn = spelled_row(the_turn(n))
            self.check_other(n, turn + [1], turn + [2])
            self.check_other(n, turn + [1], turn + [1, 1])
            self.check_other(n, [1] + turn, turn + [1])

    def test_places_and_sums_and_all_changes_the_same(self):
        pairs = (
            (3, [1, 1, 2, 2], [2, 2, 1, 1]),
            (3, [1, 1, 2, 2, -1, -1, -2, -2], []),
            (3, [1, 2, 2, -1], [-1, 2, 2, 1]),
            (4, [1, 1, 2, 2, 3, 3], [3, 3, 2, 2, 1, 1]),
            (16, [14, 14, 15, 15, -14, -14, -15, -15], []),
        )
        for n, w, v in pairs:
            self.assertEqual(places(n, w), places(n, v))
            self.assertEqual(sum_of(n, w), sum_of(n, v))
            for j in range(n):
                for i in range(j):
                    self.assertEqual(between(n, i, j, w), between(n, i, j, v))
            self.check_other(n, w, v)

    def test_such_words_with_letters_around_them(self):
        for n in range(3, 17):
            ahead = mixed_word(n, 15, n)
            behind = mixed_word(n, 15, n + 1)
            self.check_other(n, ahead + [1, 1, 2, 2] + behind, ahead + [2, 2, 1, 1] + behind)

    def test_what_is_only_nearly_a_way(self):
        self.check_other(3, [1, -2, 1], [-2, 1, -2])
        self.check_other(3, [1, -2, 1], [2, -1, 2])
        self.check_other(4, [1, 3, 1], [3, 1, 3])
        self.check_other(3, [1, 1], [1])


class HeldAgainstLaces(SameCase):
    def test_every_two_short_words(self):
        for n, longest in ((2, 4), (3, 3), (4, 2)):
            words = [list(word) for length in range(longest + 1)
                     for word in itertools.product(letters_of(n), repeat=length)]
            laces = [lace(n, word) for word in words]
            for w, lace_of_w in zip(words, laces):
                for v, lace_of_v in zip(words, laces):
                    self.assertEqual(same(n, w, v), [1 if lace_of_w == lace_of_v else 0], (n, w, v))

    def test_mixed_words_with_one_letter_changed(self):
        for n in ALL_N:
            word = mixed_word(n, 40, n)
            for at in (0, 13, 39):
                for letter in letters_of(n):
                    other = word[:at] + [letter] + word[at + 1:]
                    self.assertEqual(same(n, word, other), [1 if lace(n, word) == lace(n, other) else 0])


class LongWords(SameCase):
    def test_4096_letters_and_none(self):
        for n in (2, 3, 7, 16):
            word = mixed_word(n, 2048, n)
            with within(60):
                self.check_same(n, word + opposite(word), [])
                self.check_other(n, word + opposite(word)[:-1] + [word[0]], [])

    def test_long_words_after_many_steps(self):
        for n in (3, 16):
            word = mixed_word(n, 1500, n)
            other = after_steps(n, word, 1000, 3)
            self.assertNotEqual(other, word)
            with within(60):
                self.check_same(n, word, other)

    def test_4096_letters_each(self):
        word = mixed_word(16, 4094, 4)
        with within(60):
            self.check_same(16, [1, -1] + word, word + [15, -15])
            self.check_other(16, [1, 1] + word, word + [15, -15])
        with within(60):
            self.check_same(2, [1] * 4096, [1] * 4096)
            self.check_other(2, [1] * 4096, [-1] * 4096)

    def test_letters_that_pass_many_rows(self):
        with within(120):
            self.check_same(16, [1] * 2048 + [-3] * 2048, [-3] * 2048 + [1] * 2048)


class RefusalsInTheFirst(RefusesWhatIsNoWord, unittest.TestCase):
    def ask(self, n, word):
        return same(n, word, [])


class RefusalsInTheSecond(RefusesWhatIsNoWord, unittest.TestCase):
    def ask(self, n, word):
        return same(n, [], word)


class RefusalsInBoth(RefusesWhatIsNoWord, unittest.TestCase):
    def ask(self, n, word):
        return same(n, word, word)


class Refusals(unittest.TestCase):
    def test_a_letter_that_is_none_in_one_or_both(self):
        for n in ALL_N:
            good = mixed_word(n, 5, n)
            for bad in (0, n, -n, 127, -128):
                for at in range(len(good) + 1):
                    wrong = good[:at] + [bad] + good[at:]
                    self.assertEqual(same(n, wrong, good), [-2])
                    self.assertEqual(same(n, good, wrong), [-2])
                    self.assertEqual(same(n, wrong, wrong), [-2])
                    self.assertEqual(same(n, wrong, list(wrong)), [-2])

    def test_n_out_of_its_range(self):
        for n in NO_N:
            self.assertEqual(same(n, [], []), [-2])


class HandedIn(NothingChangedNothingKept, unittest.TestCase):
    call = staticmethod(same)
    CALLS = (
        (3, [1, -2, 1], [2]),
        (3, [1, 2, 1], [2, 1, 2]),
        (3, [], []),
        (16, mixed_word(16, 200, 1), mixed_word(16, 200, 2)),
        (16, mixed_word(16, 200, 1), mixed_word(16, 200, 1)),
        (2, [-1, -1, -1], [-1]),
        (3, [1, 3, 2], [1]),
        (3, [1], [1, 3, 2]),
        (5, [1, 4, -5], [0]),
        (1, [], []),
        (17, [], []),
    )

    def test_one_list_for_both(self):
        for n, word in ((3, [1, -2, 1]), (16, mixed_word(16, 100, 1)), (3, []), (3, [1, 3])):
            watched = Untouchable(word)
            answer = same(n, watched, watched)
            self.assertEqual(watched, word)
            self.assertEqual(answer, same(n, list(word), list(word)))
            self.assertIsNot(answer, watched)


class TheInterface(unittest.TestCase):
    def test_the_names_of_the_arguments(self):
        self.assertEqual(same(n=3, w=[1], v=[1]), [1])
        self.assertEqual(parameters(same), ("n", "w", "v"))
        self.assertEqual(same.__module__, "strandforms.crossings")


if __name__ == "__main__":
    unittest.main()
