"""What places promises: the strands' places at a word's end, or -2."""

import itertools
import unittest

from helpers import ALL_N, NothingChangedNothingKept, RefusesWhatIsNoWord, letters_of, mixed_word, parameters
from strandforms.crossings import places


def followed(n, w):
    """The same answer by another way: each strand is followed through the word alone."""
    row = [None] * n
    for strand in range(n):
        place = strand
        for letter in w:
            if place == abs(letter) - 1:
                place += 1
            elif place == abs(letter):
                place -= 1
        row[place] = strand
    return [0] + row


class OrdinaryWords(unittest.TestCase):
    def test_words_worked_by_hand(self):
        self.assertEqual(places(2, [1]), [0, 1, 0])
        self.assertEqual(places(2, [-1]), [0, 1, 0])
        self.assertEqual(places(2, [1, -1, -1]), [0, 1, 0])
        self.assertEqual(places(3, [1, 2]), [0, 1, 2, 0])
        self.assertEqual(places(3, [2, 1]), [0, 2, 0, 1])
        self.assertEqual(places(3, [-2, 1]), [0, 2, 0, 1])
        self.assertEqual(places(3, [1, -2, 1]), [0, 2, 1, 0])
        self.assertEqual(places(4, [1, 2, -3]), [0, 1, 2, 3, 0])
        self.assertEqual(places(5, [4, -3, 1]), [0, 1, 0, 4, 2, 3])
        self.assertEqual(places(6, [2, 2, -5, 3]), [0, 0, 1, 3, 2, 5, 4])

    def test_sixteen_strands_by_hand(self):
        self.assertEqual(places(16, [15, -1]), [0, 1, 0] + list(range(2, 14)) + [15, 14])
        self.assertEqual(places(16, list(range(1, 16))), [0] + list(range(1, 16)) + [0])
        self.assertEqual(places(16, list(range(-15, 0))), [0, 15] + list(range(15)))

    def test_the_turn(self):
        for n in ALL_N:
            word = []
            for last in range(n - 1, 0, -1):
                word.extend(range(1, last + 1))
            self.assertEqual(places(n, word), [0] + list(range(n - 1, -1, -1)))

    def test_every_short_word(self):
        for n, longest in ((2, 7), (3, 5), (4, 4), (5, 3)):
            for length in range(longest + 1):
                for word in itertools.product(letters_of(n), repeat=length):
                    self.assertEqual(places(n, list(word)), followed(n, word))

    def test_long_words_for_every_n(self):
        for n in ALL_N:
            for seed in range(5):
                word = mixed_word(n, 60 + 17 * seed, 100 * n + seed)
                self.assertEqual(places(n, word), followed(n, word))

    def test_the_answer_is_a_list_of_0_and_each_strand_once(self):
        for n in ALL_N:
            answer = places(n, mixed_word(n, 50, n))
            self.assertIs(type(answer), list)
            for number in answer:
                self.assertIs(type(number), int)
            self.assertEqual(len(answer), n + 1)
            self.assertEqual(answer[0], 0)
            self.assertEqual(sorted(answer[1:]), list(range(n)))


class EdgesOfTheWord(unittest.TestCase):
    def test_the_empty_word(self):
        for n in ALL_N:
            self.assertEqual(places(n, []), [0] + list(range(n)))

    def test_a_word_and_then_the_same_word_backwards(self):
        for n in ALL_N:
            for length in (1, 2, 3, 40, 2048):
                word = mixed_word(n, length, n + length)
                self.assertEqual(places(n, word + word[::-1]), [0] + list(range(n)))

    def test_a_word_backwards_by_itself_undoes_the_row(self):
        for n in ALL_N:
            word = mixed_word(n, 45, n)
            there = places(n, word)[1:]
            back = places(n, word[::-1])[1:]
            self.assertEqual([there[back[j]] for j in range(n)], list(range(n)))

    def test_4096_letters(self):
        sweeps = list(range(1, 16)) * 273 + [1]
        self.assertEqual(len(sweeps), 4096)
        self.assertEqual(places(16, sweeps), [0, 2, 1] + list(range(3, 16)) + [0])
        self.assertEqual(places(2, [1] * 4096), [0, 0, 1])
        self.assertEqual(places(2, [-1] * 4095), [0, 1, 0])
        for n in ALL_N:
            word = mixed_word(n, 4096, n)
            self.assertEqual(places(n, word), followed(n, word))


class Letters(unittest.TestCase):
    def test_each_letter_by_itself(self):
        for n in ALL_N:
            for i in range(1, n):
                row = list(range(n))
                row[i - 1] = i
                row[i] = i - 1
                self.assertEqual(places(n, [i]), [0] + row)
                self.assertEqual(places(n, [-i]), [0] + row)

    def test_both_signs_move_the_strands_alike(self):
        for n in ALL_N:
            word = mixed_word(n, 80, 7 * n)
            answer = places(n, word)
            self.assertEqual(places(n, [-letter for letter in word]), answer)
            self.assertEqual(places(n, [abs(letter) for letter in word]), answer)
            self.assertEqual(places(n, [-abs(letter) for letter in word]), answer)

    def test_the_outermost_letters_are_letters(self):
        for n in ALL_N:
            last = [0] + list(range(n - 2)) + [n - 1, n - 2]
            self.assertEqual(places(n, [n - 1]), last)
            self.assertEqual(places(n, [-(n - 1)]), last)


class Refusals(RefusesWhatIsNoWord, unittest.TestCase):
    def ask(self, n, word):
        return places(n, word)


class HandedIn(NothingChangedNothingKept, unittest.TestCase):
    call = staticmethod(places)
    CALLS = (
        (3, [1, -2, 1]),
        (3, []),
        (16, mixed_word(16, 200, 1)),
        (3, [1, 3, 2]),
        (5, [0, 1]),
        (5, [1, 4, -5]),
        (1, []),
        (17, []),
    )


class TheInterface(unittest.TestCase):
    def test_the_names_of_the_arguments(self):
        self.assertEqual(places(n=3, w=[1]), [0, 1, 0, 2])
        self.assertEqual(parameters(places), ("n", "w"))
        self.assertEqual(places.__module__, "strandforms.crossings")


if __name__ == "__main__":
    unittest.main()
