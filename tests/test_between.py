"""What between promises: how two strands change places, above 0 less below, and 8192 more; or -2."""

import itertools
import unittest

from helpers import (
    ALL_N, GREATEST, LEAST, NO_N, NothingChangedNothingKept, RefusesWhatIsNoWord, letters_of, mixed_word, opposite,
    parameters)
from strandforms.crossings import between, places, sum_of


def followed(i, j, word):
    """The same answer by another way: the two strands alone are followed, place by place."""
    at_i = i
    at_j = j
    count = 8192
    for letter in word:
        touched = (abs(letter) - 1, abs(letter))
        if (at_i, at_j) == touched or (at_j, at_i) == touched:
            count += 1 if letter > 0 else -1
        if at_i in touched:
            at_i = touched[0] + touched[1] - at_i
        if at_j in touched:
            at_j = touched[0] + touched[1] - at_j
    return [count]


class OrdinaryWords(unittest.TestCase):
    def test_one_letter(self):
        for n in ALL_N:
            for letter in letters_of(n):
                for i in range(n):
                    for j in range(n):
                        if i == j:
                            continue
                        met = {i, j} == {abs(letter) - 1, abs(letter)}
                        self.assertEqual(between(n, i, j, [letter]), [8192 + met * (1 if letter > 0 else -1)])

    def test_two_strands(self):
        self.assertEqual(between(2, 0, 1, [1, 1, 1]), [8195])
        self.assertEqual(between(2, 0, 1, [-1, -1]), [8190])
        self.assertEqual(between(2, 1, 0, [1, -1, -1, 1, 1]), [8193])

    def test_words_worked_by_hand(self):
        self.assertEqual(between(3, 0, 2, [1, 2]), [8193])
        self.assertEqual(between(3, 0, 2, [1, -2]), [8191])
        self.assertEqual(between(3, 1, 2, [1, 2]), [8192])
        self.assertEqual(between(3, 0, 1, [1, 2, 1]), [8193])
        self.assertEqual(between(3, 1, 2, [1, 2, 1]), [8193])
        self.assertEqual(between(3, 1, 2, [1, 2, -1]), [8191])
        self.assertEqual(between(4, 0, 3, [1, 2, 3, 3, 3]), [8195])
        self.assertEqual(between(4, 0, 3, [1, 2, -3, -3, -3, 3]), [8190])

    def test_strands_that_meet_again_far_from_their_first_places(self):
        # Strands 0 and 1 are led to places 3 and 4, and meet there three times.
        there = [2, 3, 4, 1, 2, 3]
        self.assertEqual(places(5, there)[4:], [0, 1])
        self.assertEqual(between(5, 0, 1, there), [8192])
        self.assertEqual(between(5, 0, 1, there + [4, 4, 4]), [8195])
        self.assertEqual(between(5, 0, 1, there + [4, -4, -4, -4]), [8190])
        self.assertEqual(between(5, 0, 1, [1] + there + [4, 4]), [8195])
        self.assertEqual(between(5, 3, 4, there + [4, 4, 4]), [8192])

    def test_sixteen_strands_by_hand(self):
        across = list(range(1, 16))
        for j in range(1, 16):
            self.assertEqual(between(16, 0, j, across), [8193])
            self.assertEqual(between(16, j, 0, [-letter for letter in across]), [8191])
        self.assertEqual(between(16, 0, 15, across + [15, 15, -15]), [8194])
        self.assertEqual(between(16, 1, 2, across + [1, 1, 1]), [8195])
        self.assertEqual(between(16, 0, 1, across + [1, 1, 1]), [8193])

    def test_i_and_j_are_strands_not_places(self):
        # After [1, 2] strands 1, 2, 0 hang at places 0, 1, 2.
        self.assertEqual(between(3, 0, 1, [1, 2, 1, 1]), [8193])
        self.assertEqual(between(3, 1, 2, [1, 2, 1, 1]), [8194])
        self.assertEqual(between(3, 0, 2, [1, 2, 1, 1]), [8193])
        self.assertEqual(between(3, 0, 2, [1, 2, 2, 2]), [8195])
        self.assertEqual(between(3, 1, 2, [1, 2, 2, 2]), [8192])

    def test_every_short_word(self):
        for n, longest in ((2, 7), (3, 5), (4, 4)):
            for length in range(longest + 1):
                for word in itertools.product(letters_of(n), repeat=length):
                    for i in range(n):
                        for j in range(n):
                            if i != j:
                                self.assertEqual(between(n, i, j, list(word)), followed(i, j, word))

    def test_longer_words_for_every_n(self):
        for n in ALL_N:
            word = mixed_word(n, 400, 5 * n)
            for i in range(n):
                for j in range(n):
                    if i != j:
                        self.assertEqual(between(n, i, j, word), followed(i, j, word))


class Pairs(unittest.TestCase):
    def test_the_order_of_the_strands_does_not_count(self):
        for n in ALL_N:
            word = mixed_word(n, 300, 11 * n)
            for i in range(n):
                for j in range(i):
                    self.assertEqual(between(n, i, j, word), between(n, j, i, word))

    def test_all_pairs_come_together_to_the_sum(self):
        for n in ALL_N:
            for length in (0, 1, 37, 500):
                word = mixed_word(n, length, n + length)
                together = sum(between(n, i, j, word)[0] - 8192 for j in range(n) for i in range(j))
                self.assertEqual(together, sum_of(n, word)[0] - 8192)

    def test_a_word_and_then_its_opposite(self):
        for n in ALL_N:
            word = mixed_word(n, 60, 13 * n)
            for j in range(n):
                for i in range(j):
                    self.assertEqual(between(n, i, j, word + opposite(word)), [8192])


class Edges(unittest.TestCase):
    def test_the_empty_word(self):
        for n in ALL_N:
            for i in range(n):
                for j in range(n):
                    if i != j:
                        self.assertEqual(between(n, i, j, []), [8192])

    def test_4096_letters(self):
        self.assertEqual(between(2, 0, 1, [1] * 4096), [12288])
        self.assertEqual(between(2, 1, 0, [1] * 4096), [12288])
        self.assertEqual(between(2, 0, 1, [-1] * 4096), [4096])
        self.assertEqual(between(2, 1, 0, [-1] * 4096), [4096])
        for n in (3, 16):
            word = mixed_word(n, 4096, n)
            for i, j in ((0, 1), (0, n - 1), (n - 1, 1)):
                self.assertEqual(between(n, i, j, word), followed(i, j, word))


class Strands(unittest.TestCase):
    def test_the_outermost_strands_are_strands(self):
        for n in ALL_N:
            for word in ([], [1], mixed_word(n, 20, n)):
                self.assertEqual(between(n, 0, n - 1, word), followed(0, n - 1, word))
                self.assertEqual(between(n, n - 1, 0, word), followed(n - 1, 0, word))

    def test_what_is_no_strand_is_refused(self):
        for n in ALL_N:
            for word in ([], [1], mixed_word(n, 20, n)):
                for bad in (-1, -2, -n, n, n + 1, 16, LEAST, GREATEST):
                    for good in (0, 1, n - 1):
                        self.assertEqual(between(n, bad, good, word), [-2])
                        self.assertEqual(between(n, good, bad, word), [-2])

    def test_one_strand_twice_is_refused(self):
        for n in ALL_N:
            for word in ([], [1], mixed_word(n, 20, n)):
                for i in range(n):
                    self.assertEqual(between(n, i, i, word), [-2])

    def test_two_that_are_no_strands_are_refused(self):
        bad = (-1, 16, 17, LEAST, GREATEST)
        for n in (2, 3, 16):
            for i in bad:
                for j in bad:
                    self.assertEqual(between(n, i, j, []), [-2])
                    self.assertEqual(between(n, i, j, [1]), [-2])

    def test_a_bad_word_and_a_bad_strand_together(self):
        self.assertEqual(between(3, 3, 0, [3]), [-2])
        self.assertEqual(between(3, 1, 1, [0]), [-2])
        for n in NO_N:
            for i, j in ((0, 1), (n, 0), (0, n - 1), (0, 0), (-1, 16), (LEAST, GREATEST)):
                self.assertEqual(between(n, i, j, []), [-2])


class Refusals(RefusesWhatIsNoWord, unittest.TestCase):
    def ask(self, n, word):
        return between(n, 1, 0, word)


class HandedIn(NothingChangedNothingKept, unittest.TestCase):
    call = staticmethod(between)
    CALLS = (
        (3, 0, 1, [1, -2, 1]),
        (3, 2, 0, []),
        (16, 3, 9, mixed_word(16, 200, 1)),
        (2, 1, 0, [-1, -1, -1]),
        (3, 0, 1, [1, 3, 2]),
        (5, 4, 3, [1, 4, -5]),
        (5, 4, 4, [1, 4]),
        (5, 0, 5, [1, 4]),
        (5, -1, 0, [1, 4]),
        (1, 0, 1, []),
        (17, 0, 1, []),
    )


class TheInterface(unittest.TestCase):
    def test_the_names_of_the_arguments(self):
        self.assertEqual(between(n=3, i=0, j=2, w=[1, 2]), [8193])
        self.assertEqual(parameters(between), ("n", "i", "j", "w"))
        self.assertEqual(between.__module__, "strandforms.crossings")


if __name__ == "__main__":
    unittest.main()
