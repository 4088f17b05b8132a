"""What places promises: the strands' places at a word's end, or -2."""

import contextlib
import copy
import io
import itertools
import unittest

from strandforms import crossings
from strandforms.crossings import places

ALL_N = range(2, 17)


def letters_of(n):
    return list(range(-(n - 1), 0)) + list(range(1, n))


def followed(n, w):
    """The same answer by another way: each strand is followed through the word alone."""
    row = [None] * n
    for strand in range(n):
        place = strand
        for letter in w:
            if place == abs(letter) - 1:
                place += 1
            elif place == abs(letter):
                place -= 1
        row[place] = strand
    return [0] + row


def mixed_word(n, length, seed):
    """A word of both signs, the same one at each run of the tests."""
    letters = letters_of(n)
    word = []
    state = seed
    for _ in range(length):
        state = (state * 1103515245 + 12345) % 2147483648
        word.append(letters[(state >> 8) % len(letters)])
    return word


def untouchable(name):
    def refuse(self, *args, **kwargs):
        raise AssertionError(f"the list that was handed in was changed by {name}")
    return refuse


class Untouchable(list):
    """A list that fails the test as soon as it is changed, for a while only too."""


for changer in ("append", "clear", "extend", "insert", "pop", "remove", "reverse", "sort",
                "__setitem__", "__delitem__", "__iadd__", "__imul__"):
    setattr(Untouchable, changer, untouchable(changer))


class OrdinaryWords(unittest.TestCase):
    def test_words_worked_by_hand(self):
        self.assertEqual(places(2, [1]), [0, 1, 0])
        self.assertEqual(places(2, [-1]), [0, 1, 0])
        self.assertEqual(places(2, [1, -1, -1]), [0, 1, 0])
        self.assertEqual(places(3, [1, 2]), [0, 1, 2, 0])
        self.assertEqual(places(3, [2, 1]), [0, 2, 0, 1])
        self.assertEqual(places(3, [-2, 1]), [0, 2, 0, 1])
        self.assertEqual(places(3, [1, -2, 1]), [0, 2, 1, 0])
        self.assertEqual(places(4, [1, 2, -3]), [0, 1, 2, 3, 0])
        self.assertEqual(places(5, [4, -3, 1]), [0, 1, 0, 4, 2, 3])
        self.assertEqual(places(6, [2, 2, -5, 3]), [0, 0, 1, 3, 2, 5, 4])

    def test_sixteen_strands_by_hand(self):
        self.assertEqual(places(16, [15, -1]), [0, 1, 0] + list(range(2, 14)) + [15, 14])
        self.assertEqual(places(16, list(range(1, 16))), [0] + list(range(1, 16)) + [0])
        self.assertEqual(places(16, list(range(-15, 0))), [0, 15] + list(range(15)))

    def test_the_turn(self):
        for n in ALL_N:
            word = []
            for last in range(n - 1, 0, -1):
                word.extend(range(1, last + 1))
            self.assertEqual(places(n, word), [0] + list(range(n - 1, -1, -1)))

    def test_every_short_word(self):
        for n, longest in ((2, 7), (3, 5), (4, 4), (5, 3)):
            for length in range(longest + 1):
                for word in itertools.product(letters_of(n), repeat=length):
                    self.assertEqual(places(n, list(word)), followed(n, word))

    def test_long_words_for_every_n(self):
        for n in ALL_N:
            for seed in range(5):
                word = mixed_word(n, 60 + 17 * seed, 100 * n + seed)
                self.assertEqual(places(n, word), followed(n, word))

    def test_the_answer_is_a_list_of_0_and_each_strand_once(self):
        for n in ALL_N:
            answer = places(n, mixed_word(n, 50, n))
            self.assertIs(type(answer), list)
            for number in answer:
                self.assertIs(type(number), int)
            self.assertEqual(len(answer), n + 1)
            self.assertEqual(answer[0], 0)
            self.assertEqual(sorted(answer[1:]), list(range(n)))


class EdgesOfTheWord(unittest.TestCase):
    def test_the_empty_word(self):
        for n in ALL_N:
            self.assertEqual(places(n, []), [0] + list(range(n)))

    def test_a_word_and_then_the_same_word_backwards(self):
        for n in ALL_N:
            for length in (1, 2, 3, 40, 2048):
                word = mixed_word(n, length, n + length)
                self.assertEqual(places(n, word + word[::-1]), [0] + list(range(n)))

    def test_a_word_backwards_by_itself_undoes_the_row(self):
        for n in ALL_N:
            word = mixed_word(n, 45, n)
            there = places(n, word)[1:]
            back = places(n, word[::-1])[1:]
            self.assertEqual([there[back[j]] for j in range(n)], list(range(n)))

    def test_4096_letters(self):
        sweeps = list(range(1, 16)) * 273 + [1]
        self.assertEqual(len(sweeps), 4096)
        self.assertEqual(places(16, sweeps), [0, 2, 1] + list(range(3, 16)) + [0])
        self.assertEqual(places(2, [1] * 4096), [0, 0, 1])
        self.assertEqual(places(2, [-1] * 4095), [0, 1, 0])
        for n in ALL_N:
            word = mixed_word(n, 4096, n)
            self.assertEqual(places(n, word), followed(n, word))

    def test_more_than_4096_letters_are_refused(self):
        self.assertEqual(places(2, [1] * 4097), [-2])
        self.assertEqual(places(16, [15] * 5000), [-2])


class Letters(unittest.TestCase):
    def test_each_letter_by_itself(self):
        for n in ALL_N:
            for i in range(1, n):
                row = list(range(n))
                row[i - 1] = i
                row[i] = i - 1
                self.assertEqual(places(n, [i]), [0] + row)
                self.assertEqual(places(n, [-i]), [0] + row)

    def test_both_signs_move_the_strands_alike(self):
        for n in ALL_N:
            word = mixed_word(n, 80, 7 * n)
            answer = places(n, word)
            self.assertEqual(places(n, [-letter for letter in word]), answer)
            self.assertEqual(places(n, [abs(letter) for letter in word]), answer)
            self.assertEqual(places(n, [-abs(letter) for letter in word]), answer)

    def test_the_outermost_letters_are_letters(self):
        for n in ALL_N:
            last = [0] + list(range(n - 2)) + [n - 1, n - 2]
            self.assertEqual(places(n, [n - 1]), last)
            self.assertEqual(places(n, [-(n - 1)]), last)

    def test_what_is_no_letter_is_refused_wherever_it_stands(self):
        for n in ALL_N:
            good = mixed_word(n, 6, n)
            for bad in (0, n, -n, n + 1, -n - 1, 127, -128):
                self.assertEqual(places(n, [bad]), [-2])
                self.assertEqual(places(n, [bad, bad]), [-2])
                for at in range(len(good) + 1):
                    self.assertEqual(places(n, good[:at] + [bad] + good[at:]), [-2])

    def test_every_number_from_minus_128_to_127(self):
        for n in ALL_N:
            letters = letters_of(n)
            for number in range(-128, 128):
                if number in letters:
                    self.assertEqual(places(n, [number])[0], 0)
                else:
                    self.assertEqual(places(n, [number]), [-2])

    def test_one_bad_number_at_the_end_of_a_long_word(self):
        for bad in (0, 16, -16, 127, -128):
            self.assertEqual(places(16, [1] * 4095 + [bad]), [-2])
            self.assertEqual(places(16, [bad] + [1] * 4095), [-2])


class Strands(unittest.TestCase):
    def test_n_out_of_its_range(self):
        for n in (1, 0, -1, -2, -16, 17, 18, 255, -2147483648, 2147483647):
            self.assertEqual(places(n, []), [-2])

    def test_n_at_its_edges(self):
        self.assertEqual(places(2, []), [0, 0, 1])
        self.assertEqual(places(16, []), [0] + list(range(16)))

    def test_a_refusal_is_a_list_with_its_number_alone(self):
        for answer in (places(1, []), places(17, []), places(3, [3])):
            self.assertIs(type(answer), list)
            self.assertEqual(len(answer), 1)
            self.assertIs(type(answer[0]), int)
            self.assertEqual(answer[0], -2)


class NothingChangedNothingKept(unittest.TestCase):
    CALLS = (
        (3, [1, -2, 1]),
        (3, []),
        (16, mixed_word(16, 200, 1)),
        (3, [1, 3, 2]),
        (5, [0, 1]),
        (5, [1, 4, -5]),
        (1, []),
        (17, []),
    )

    def test_the_list_handed_in_is_as_it_was(self):
        for n, word in self.CALLS:
            handed = list(word)
            places(n, handed)
            self.assertEqual(handed, word)

    def test_the_list_handed_in_is_not_changed_for_a_while_either(self):
        for n, word in self.CALLS:
            self.assertEqual(places(n, Untouchable(word)), places(n, list(word)))

    def test_the_watched_list_sees_a_change(self):
        watched = Untouchable([1, 2])
        with self.assertRaises(AssertionError):
            watched[0] = 2
        with self.assertRaises(AssertionError):
            watched.append(1)

    def test_what_is_given_back_is_a_new_list(self):
        for n, word in self.CALLS:
            handed = list(word)
            first = places(n, handed)
            second = places(n, handed)
            self.assertIsNot(first, handed)
            self.assertIsNot(first, second)
            before = list(second)
            first.append(99)
            first[0] = 77
            self.assertEqual(handed, word)
            self.assertEqual(second, before)
            self.assertEqual(places(n, handed), before)

    def test_the_same_answer_whatever_was_called_between(self):
        first = [places(n, list(word)) for n, word in self.CALLS]
        for (n, word), answer in zip(self.CALLS, first):
            for other_n, other_word in self.CALLS:
                places(other_n, list(other_word))
                self.assertEqual(places(n, list(word)), answer)

    def test_nothing_of_the_module_changes(self):
        def kept():
            return {name: copy.deepcopy(value) for name, value in vars(crossings).items()
                    if not name.startswith("__")}
        before = kept()
        for n, word in self.CALLS:
            places(n, list(word))
        self.assertEqual(kept(), before)
        self.assertEqual(vars(places), {})
        self.assertIsNone(places.__defaults__)

    def test_it_prints_nothing(self):
        out = io.StringIO()
        with contextlib.redirect_stdout(out), contextlib.redirect_stderr(out):
            for n, word in self.CALLS:
                places(n, list(word))
        self.assertEqual(out.getvalue(), "")


class TheInterface(unittest.TestCase):
    def test_the_names_of_the_arguments(self):
        self.assertEqual(places(n=3, w=[1]), [0, 1, 0, 2])
        self.assertEqual(places.__code__.co_varnames[:places.__code__.co_argcount], ("n", "w"))
        self.assertEqual(places.__module__, "strandforms.crossings")


if __name__ == "__main__":
    unittest.main()
