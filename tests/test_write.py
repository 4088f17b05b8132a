"""What write promises: the first of the shortest words for turns and rows; or -2, or -3."""

import itertools
import unittest

from helpers import (
    ALL_N, GREATEST, LEAST, NO_N, Choices, NothingChangedNothingKept, cut, lace, mixed_word, opposite, parameters,
    spelled, spelled_row, the_turn, within)
from strandforms.crossings import form, places, same, write

NO_K = (-1, -2, -4096, 4097, 5000, LEAST, GREATEST)
NO_TURNS = (-4097, 4097, -5000, 65536, LEAST, GREATEST)
NO_MOST = (-1, -2, -3, -4096, LEAST)


def mixed_row(n, choices):
    row = list(range(n))
    for at in range(n - 1, 0, -1):
        other = choices.below(at + 1)
        row[at], row[other] = row[other], row[at]
    return row


def mixed_rows(n, many, seed):
    choices = Choices(seed)
    return [mixed_row(n, choices) for _ in range(many)]


def pairs(row):
    return sum(row[a] > row[b] for b in range(len(row)) for a in range(b))


def written(n, turns, rows):
    """The word with no bound that matters."""
    answer = write(turns, len(rows), n, GREATEST, [strand for row in rows for strand in row])
    if answer[0] != len(answer) - 1:
        raise AssertionError(f"{answer[0]} letters are told, {len(answer) - 1} are there")
    return answer[1:]


def turn_word(n):
    """The first of the shortest words of the turn: 1, then 2, 1, then 3, 2, 1, and so on."""
    return [letter for last in range(1, n) for letter in range(last, 0, -1)]


def first_words(n):
    """Each row's first shortest word: all rows are reached letter by letter, the words in their order."""
    found = {tuple(range(n)): []}
    newest = list(found)
    while newest:
        reached = []
        for row in newest:
            for i in range(1, n):
                after = list(row)
                after[i - 1], after[i] = after[i], after[i - 1]
                if tuple(after) not in found:
                    found[tuple(after)] = found[row] + [i]
                    reached.append(tuple(after))
        newest = sorted(reached, key=found.get)
    return found


class ByHand(unittest.TestCase):
    def test_no_turn_and_no_row(self):
        for n in ALL_N:
            self.assertEqual(write(0, 0, n, 0, []), [0])
            self.assertEqual(write(0, 0, n, GREATEST, []), [0])

    def test_turns_of_few_strands(self):
        self.assertEqual(write(1, 0, 2, 9, []), [1, 1])
        self.assertEqual(write(2, 0, 2, 9, []), [2, 1, 1])
        self.assertEqual(write(-1, 0, 2, 9, []), [1, -1])
        self.assertEqual(write(-2, 0, 2, 9, []), [2, -1, -1])
        self.assertEqual(write(1, 0, 3, 9, []), [3, 1, 2, 1])
        self.assertEqual(write(2, 0, 3, 9, []), [6, 1, 2, 1, 1, 2, 1])
        self.assertEqual(write(-1, 0, 3, 9, []), [3, -1, -2, -1])
        self.assertEqual(write(-2, 0, 3, 9, []), [6, -1, -2, -1, -1, -2, -1])
        self.assertEqual(write(1, 0, 4, 9, []), [6, 1, 2, 1, 3, 2, 1])
        self.assertEqual(write(-1, 0, 4, 9, []), [6, -1, -2, -3, -1, -2, -1])
        self.assertEqual(write(-2, 0, 4, 12, []), [12] + [-1, -2, -3, -1, -2, -1] * 2)

    def test_turns_for_every_n(self):
        for n in ALL_N:
            turn = turn_word(n)
            self.assertEqual(len(turn), n * (n - 1) // 2)
            for turns in (1, 2, 3, 7):
                self.assertEqual(written(n, turns, []), turn * turns)
                self.assertEqual(written(n, -turns, []), opposite(turn) * turns)

    def test_one_row(self):
        self.assertEqual(write(0, 1, 2, 9, [0, 1]), [0])
        self.assertEqual(write(0, 1, 2, 9, [1, 0]), [1, 1])
        self.assertEqual(write(0, 1, 3, 9, [1, 0, 2]), [1, 1])
        self.assertEqual(write(0, 1, 3, 9, [0, 2, 1]), [1, 2])
        self.assertEqual(write(0, 1, 3, 9, [1, 2, 0]), [2, 1, 2])
        self.assertEqual(write(0, 1, 3, 9, [2, 0, 1]), [2, 2, 1])
        self.assertEqual(write(0, 1, 4, 9, [1, 0, 3, 2]), [2, 1, 3])
        self.assertEqual(write(0, 1, 4, 9, [2, 3, 0, 1]), [4, 2, 1, 3, 2])
        self.assertEqual(write(0, 1, 4, 9, [3, 0, 1, 2]), [3, 3, 2, 1])
        self.assertEqual(write(0, 1, 4, 9, [1, 2, 3, 0]), [3, 1, 2, 3])

    def test_several_rows(self):
        self.assertEqual(write(0, 2, 3, 9, [1, 0, 2, 0, 2, 1]), [2, 1, 2])
        self.assertEqual(write(0, 2, 3, 9, [0, 2, 1, 1, 0, 2]), [2, 2, 1])
        self.assertEqual(write(0, 3, 3, 9, [1, 2, 0, 2, 0, 1, 1, 0, 2]), [5, 1, 2, 2, 1, 1])

    def test_none_and_the_turn_among_the_rows(self):
        self.assertEqual(write(0, 1, 3, 9, [0, 1, 2]), [0])
        self.assertEqual(write(0, 1, 3, 9, [2, 1, 0]), [3, 1, 2, 1])
        self.assertEqual(write(0, 3, 3, 9, [0, 1, 2, 2, 1, 0, 0, 1, 2]), [3, 1, 2, 1])
        self.assertEqual(write(0, 3, 3, 9, [1, 0, 2, 0, 1, 2, 2, 1, 0]), [4, 1, 1, 2, 1])
        for n in ALL_N:
            self.assertEqual(written(n, 0, [list(range(n))] * 5), [])
            self.assertEqual(written(n, 0, [the_turn(n)] * 5), written(n, 5, []))

    def test_turns_and_rows_together(self):
        self.assertEqual(write(1, 1, 3, 9, [1, 0, 2]), [4, 1, 2, 1, 1])
        self.assertEqual(write(-1, 1, 3, 9, [1, 2, 0]), [5, -1, -2, -1, 1, 2])
        self.assertEqual(write(-2, 2, 2, 9, [1, 0, 1, 0]), [4, -1, -1, 1, 1])
        self.assertEqual(write(-1, 1, 3, 9, [2, 1, 0]), [6, -1, -2, -1, 1, 2, 1])
        self.assertEqual(write(-1, 2, 4, 9, [0, 2, 1, 3, 1, 0, 3, 2]), [9, -1, -2, -3, -1, -2, -1, 2, 1, 3])

    def test_sixteen_strands(self):
        self.assertEqual(write(0, 1, 16, 15, list(range(1, 16)) + [0]), [15] + list(range(1, 16)))
        self.assertEqual(write(0, 1, 16, 15, [15] + list(range(15))), [15] + list(range(15, 0, -1)))
        swapped = [strand + (1 if strand % 2 == 0 else -1) for strand in range(16)]
        self.assertEqual(write(0, 1, 16, 15, swapped), [8] + list(range(1, 16, 2)))


class TheFirstOfTheShortest(unittest.TestCase):
    def test_held_against_all_words(self):
        for n in (2, 3, 4):
            words_of = {}
            for length in range(n * (n - 1) // 2 + 1):
                for word in itertools.product(range(1, n), repeat=length):
                    words_of.setdefault(tuple(places(n, list(word))[1:]), []).append(list(word))
            for row in itertools.permutations(range(n)):
                shortest = min(len(word) for word in words_of[row])
                first = min(word for word in words_of[row] if len(word) == shortest)
                self.assertEqual(write(0, 1, n, 9, list(row)), [len(first)] + first)

    def test_held_against_words_reached_letter_by_letter(self):
        for n in (3, 4, 5, 6):
            found = first_words(n)
            self.assertEqual(len(found), len(list(itertools.permutations(range(n)))))
            for row, word in found.items():
                self.assertEqual(written(n, 0, [row]), word)


class WhatIsMeant(unittest.TestCase):
    def test_the_strands_come_to_the_rows_places(self):
        for n in ALL_N:
            for row in mixed_rows(n, 40, n) + [list(range(n)), the_turn(n)]:
                word = written(n, 0, [row])
                self.assertEqual(places(n, word), [0] + row)
                self.assertEqual(len(word), pairs(row))
                self.assertTrue(all(1 <= letter <= n - 1 for letter in word))

    def test_rows_are_written_one_behind_another(self):
        for n in ALL_N:
            rows = mixed_rows(n, 12, 3 * n)
            apart = [letter for row in rows for letter in written(n, 0, [row])]
            self.assertEqual(written(n, 0, rows), apart)
            for turns in (-3, -1, 1, 2):
                self.assertEqual(written(n, turns, rows), written(n, turns, []) + apart)

    def test_the_braid_of_turns_and_rows(self):
        for n in ALL_N:
            for turns in (-2, -1, 0, 1, 2):
                rows = mixed_rows(n, 6, 5 * n + turns + 2)
                self.assertEqual(lace(n, written(n, turns, rows)), lace(n, spelled(n, turns, rows)))

    def test_any_word_of_a_row_is_the_same_braid(self):
        for n in ALL_N:
            for row in mixed_rows(n, 5, 7 * n):
                self.assertEqual(same(n, written(n, 0, [row]), spelled_row(row)), [1])

    def test_the_form_of_what_is_written_for_a_form(self):
        for n in ALL_N:
            for length in (0, 1, 10, 40):
                word = mixed_word(n, length, 11 * n + length)
                told = form(n, 4096, word)
                answer = write(told[1], told[0], n, GREATEST, told[2:])
                self.assertEqual(answer[0], len(answer) - 1)
                self.assertLessEqual(answer[0], 4096)
                self.assertEqual(form(n, 4096, answer[1:]), told)
                self.assertEqual(same(n, answer[1:], word), [1])

    def test_rows_that_are_no_form(self):
        for n in ALL_N:
            rows = mixed_rows(n, 6, 13 * n) + [the_turn(n), list(range(n))]
            word = written(n, 2, rows)
            told = form(n, 4096, word)
            self.assertEqual(same(n, written(n, told[1], cut(n, told[2:])), word), [1])


class Most(unittest.TestCase):
    def test_just_as_many_and_one_fewer(self):
        for n in ALL_N:
            for turns in (-2, -1, 0, 1, 3):
                rows = [strand for row in mixed_rows(n, 8, n + turns) for strand in row]
                whole = write(turns, 8, n, GREATEST, rows)
                many = whole[0]
                self.assertGreater(many, 0)
                self.assertEqual(write(turns, 8, n, many, rows), whole)
                self.assertEqual(write(turns, 8, n, many + 1, rows), whole)
                self.assertEqual(write(turns, 8, n, many - 1, rows), [-3])
                self.assertEqual(write(turns, 8, n, 0, rows), [-3])

    def test_turns_alone_and_rows_alone(self):
        for turns in (1, -1):
            self.assertEqual(write(turns, 0, 3, 3, [])[0], 3)
            self.assertEqual(write(turns, 0, 3, 2, []), [-3])
        self.assertEqual(write(0, 1, 3, 2, [1, 2, 0]), [2, 1, 2])
        self.assertEqual(write(0, 1, 3, 1, [1, 2, 0]), [-3])

    def test_letters_are_not_taken_out(self):
        # The turn undone and the turn behind it are no braid at all, but their letters are written and counted.
        self.assertEqual(write(-1, 1, 2, 2, [1, 0]), [2, -1, 1])
        self.assertEqual(write(-1, 1, 2, 1, [1, 0]), [-3])

    def test_none_needs_no_letter(self):
        for n in ALL_N:
            self.assertEqual(write(0, 3, n, 0, list(range(n)) * 3), [0])

    def test_below_0(self):
        for most in NO_MOST:
            self.assertEqual(write(0, 0, 2, most, []), [-2])
            self.assertEqual(write(1, 0, 16, most, []), [-2])
            self.assertEqual(write(-1, 1, 3, most, [1, 0, 2]), [-2])
            self.assertEqual(write(0, 1, 3, most, [0, 1, 2]), [-2])


class Edges(unittest.TestCase):
    def test_turns(self):
        self.assertEqual(write(4096, 0, 2, 4096, []), [4096] + [1] * 4096)
        self.assertEqual(write(-4096, 0, 2, 4096, []), [4096] + [-1] * 4096)
        self.assertEqual(write(4096, 0, 2, 4095, []), [-3])
        self.assertEqual(write(-4096, 0, 2, 4095, []), [-3])
        for turns in NO_TURNS:
            for most in (0, 4096, GREATEST):
                self.assertEqual(write(turns, 0, 2, most, []), [-2])
                self.assertEqual(write(turns, 1, 3, most, [1, 0, 2]), [-2])
                self.assertEqual(write(turns, 0, 16, most, []), [-2])

    def test_k(self):
        self.assertEqual(write(0, 4096, 2, 4096, [1, 0] * 4096), [4096] + [1] * 4096)
        self.assertEqual(write(0, 4096, 2, 4095, [1, 0] * 4096), [-3])
        self.assertEqual(write(0, 4096, 16, 0, list(range(16)) * 4096), [0])
        for k in NO_K:
            for n in (2, 3, 16):
                for most in (0, GREATEST):
                    self.assertEqual(write(0, k, n, most, []), [-2])
                    self.assertEqual(write(1, k, n, most, []), [-2])
        # Not because rows are missing either.
        self.assertEqual(write(0, 4097, 2, GREATEST, [1, 0] * 4097), [-2])

    def test_n(self):
        self.assertEqual(write(0, 0, 2, 0, []), [0])
        self.assertEqual(write(0, 0, 16, 0, []), [0])
        for n in NO_N:
            for k in (0, 1, 2, 4096):
                for most in (0, GREATEST):
                    self.assertEqual(write(0, k, n, most, []), [-2])
                    self.assertEqual(write(1, k, n, most, []), [-2])

    def test_the_greatest_bound(self):
        self.assertEqual(write(1, 0, 2, GREATEST, []), [1, 1])

    def test_several_out_of_range_at_once(self):
        edges = (LEAST, GREATEST)
        for turns, k, n, most in itertools.product(edges, edges, edges, edges):
            self.assertEqual(write(turns, k, n, most, []), [-2])

    def test_a_refusal_is_a_plain_number_alone(self):
        for answer in (write(0, 0, 1, 0, []), write(1, 0, 2, 0, [])):
            self.assertIs(type(answer), list)
            self.assertEqual(len(answer), 1)
            self.assertIs(type(answer[0]), int)


class NoPermutation(unittest.TestCase):
    def wrong_rows(self, n):
        none = list(range(n))
        turn = the_turn(n)
        yield [0] * n
        yield [1] * n
        yield none[:-1] + [n - 2]
        yield [1] + none[1:]
        yield turn[:-1] + [1]
        for bad in (n, n + 1, 255):
            yield none[:-1] + [bad]
            yield [bad] + none[1:]
            yield [bad] + turn[1:]
        yield [strand + 1 for strand in none]

    def test_by_itself(self):
        for n in ALL_N:
            for wrong in self.wrong_rows(n):
                for turns, most in ((0, GREATEST), (0, 0), (2, GREATEST), (-1, 0)):
                    self.assertEqual(write(turns, 1, n, most, wrong), [-2], wrong)

    def test_first_last_and_between(self):
        for n in ALL_N:
            good = mixed_rows(n, 4, n)
            for wrong in self.wrong_rows(n):
                for at in range(5):
                    rows = good[:at] + [wrong] + good[at:]
                    numbers = [strand for row in rows for strand in row]
                    self.assertEqual(write(0, 5, n, GREATEST, numbers), [-2])
                    self.assertEqual(write(1, 5, n, 0, numbers), [-2])

    def test_one_wrong_among_many(self):
        for at in (0, 1, 2000, 4095):
            rows = list(range(16)) * 4096
            rows[at * 16 + 3] = 4
            self.assertEqual(write(0, 4096, 16, GREATEST, rows), [-2])
            self.assertEqual(write(4096, 4096, 16, 0, rows), [-2])

    def test_numbers_that_are_a_permutation_only_over_two_rows(self):
        self.assertEqual(write(0, 2, 2, 9, [0, 0, 1, 1]), [-2])
        self.assertEqual(write(0, 2, 3, 9, [0, 1, 1, 0, 2, 2]), [-2])


class LongAnswers(unittest.TestCase):
    def test_many_rows(self):
        rows = mixed_rows(16, 4096, 1)
        numbers = [strand for row in rows for strand in row]
        many = sum(pairs(row) for row in rows)
        with within(60):
            answer = write(0, 4096, 16, GREATEST, numbers)
        self.assertEqual(answer[0], many)
        self.assertEqual(len(answer), many + 1)
        with within(60):
            self.assertEqual(write(0, 4096, 16, many, numbers), answer)
            self.assertEqual(write(0, 4096, 16, many - 1, numbers), [-3])
            self.assertEqual(write(0, 4096, 16, 0, numbers), [-3])

    def test_many_turns(self):
        with within(60):
            self.assertEqual(write(4096, 0, 16, 491520, []), [491520] + turn_word(16) * 4096)
            self.assertEqual(write(-4096, 0, 16, 491520, []), [491520] + opposite(turn_word(16)) * 4096)
            self.assertEqual(write(4096, 0, 16, 491519, []), [-3])
            self.assertEqual(write(-4096, 0, 16, 0, []), [-3])

    def test_the_longest_answer(self):
        rows = the_turn(16) * 4096
        with within(60):
            answer = write(-4096, 4096, 16, 983040, rows)
            self.assertEqual(answer, [983040] + opposite(turn_word(16)) * 4096 + turn_word(16) * 4096)
            self.assertEqual(write(-4096, 4096, 16, 983039, rows), [-3])


class HandedIn(NothingChangedNothingKept, unittest.TestCase):
    call = staticmethod(write)
    CALLS = (
        (0, 0, 3, 0, []),
        (2, 1, 3, 20, [1, 2, 0]),
        (-2, 2, 4, 40, [1, 2, 0, 3, 3, 2, 1, 0]),
        (1, 5, 16, 4096, [strand for row in mixed_rows(16, 5, 1) for strand in row]),
        (1, 1, 3, 3, [1, 2, 0]),
        (0, 2, 3, 20, [1, 2, 0, 1, 1, 0]),
        (0, 1, 2, 20, [0, 255]),
        (4097, 1, 3, 20, [1, 2, 0]),
        (0, 1, 3, -1, [1, 2, 0]),
        (0, -1, 3, 20, []),
        (0, 1, 1, 20, []),
        (0, 1, 17, 20, []),
    )


class TheInterface(unittest.TestCase):
    def test_the_names_of_the_arguments(self):
        self.assertEqual(write(turns=1, k=1, n=2, most=2, rows=[1, 0]), [2, 1, 1])
        self.assertEqual(parameters(write), ("turns", "k", "n", "most", "rows"))
        self.assertEqual(write.__module__, "strandforms.crossings")


if __name__ == "__main__":
    unittest.main()
