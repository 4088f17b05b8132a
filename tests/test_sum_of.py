"""What sum_of promises: the letters above 0, less those below, and 8192 more; or -2."""

import itertools
import unittest

from helpers import ALL_N, NothingChangedNothingKept, RefusesWhatIsNoWord, letters_of, mixed_word, opposite, parameters
from strandforms.crossings import sum_of


def counted(word):
    """The same answer by another way: both counts by themselves."""
    above = len([letter for letter in word if letter > 0])
    below = len([letter for letter in word if letter < 0])
    return [8192 + above - below]


class OrdinaryWords(unittest.TestCase):
    def test_more_letters_above_0(self):
        self.assertEqual(sum_of(2, [1]), [8193])
        self.assertEqual(sum_of(2, [1, -1, 1]), [8193])
        self.assertEqual(sum_of(5, [4, 3, -2, 4]), [8194])
        self.assertEqual(sum_of(16, [15, 14, 1, -15]), [8194])

    def test_more_letters_below_0(self):
        self.assertEqual(sum_of(2, [-1]), [8191])
        self.assertEqual(sum_of(2, [-1, 1, -1, -1]), [8190])
        self.assertEqual(sum_of(5, [-4, -3, 2]), [8191])
        self.assertEqual(sum_of(16, [-15, -14, -1]), [8189])

    def test_as_many_above_as_below(self):
        self.assertEqual(sum_of(2, [1, -1]), [8192])
        self.assertEqual(sum_of(3, [1, -2]), [8192])
        self.assertEqual(sum_of(5, [-4, 3, 2, -4]), [8192])
        self.assertEqual(sum_of(16, [15, -1, 2, -14]), [8192])

    def test_each_letter_counts_one_whatever_its_size(self):
        for n in ALL_N:
            for i in range(1, n):
                self.assertEqual(sum_of(n, [i]), [8193])
                self.assertEqual(sum_of(n, [-i]), [8191])

    def test_every_short_word(self):
        for n, longest in ((2, 7), (3, 5), (4, 4)):
            for length in range(longest + 1):
                for word in itertools.product(letters_of(n), repeat=length):
                    self.assertEqual(sum_of(n, list(word)), counted(word))

    def test_longer_words_for_every_n(self):
        for n in ALL_N:
            for length in (50, 333, 4095, 4096):
                word = mixed_word(n, length, n + length)
                self.assertEqual(sum_of(n, word), counted(word))


class Edges(unittest.TestCase):
    def test_the_empty_word(self):
        for n in ALL_N:
            self.assertEqual(sum_of(n, []), [8192])

    def test_a_word_and_then_its_opposite(self):
        for n in ALL_N:
            for length in (1, 2, 40, 2048):
                word = mixed_word(n, length, 3 * n + length)
                self.assertEqual(sum_of(n, word + opposite(word)), [8192])

    def test_4096_letters_of_one_sign(self):
        for n in ALL_N:
            above = [abs(letter) for letter in mixed_word(n, 4096, n)]
            below = [-letter for letter in above]
            self.assertEqual(sum_of(n, above), [12288])
            self.assertEqual(sum_of(n, below), [4096])
            self.assertEqual(sum_of(n, [n - 1] * 4096), [12288])
            self.assertEqual(sum_of(n, [1 - n] * 4096), [4096])


class Refusals(RefusesWhatIsNoWord, unittest.TestCase):
    def ask(self, n, word):
        return sum_of(n, word)


class HandedIn(NothingChangedNothingKept, unittest.TestCase):
    call = staticmethod(sum_of)
    CALLS = (
        (3, [1, -2, 1]),
        (3, []),
        (16, mixed_word(16, 200, 1)),
        (2, [-1, -1, -1]),
        (3, [1, 3, 2]),
        (5, [0, 1]),
        (5, [1, 4, -5]),
        (1, []),
        (17, []),
    )


class TheInterface(unittest.TestCase):
    def test_the_names_of_the_arguments(self):
        self.assertEqual(sum_of(n=3, w=[1]), [8193])
        self.assertEqual(parameters(sum_of), ("n", "w"))
        self.assertEqual(sum_of.__module__, "strandforms.crossings")


if __name__ == "__main__":
    unittest.main()
