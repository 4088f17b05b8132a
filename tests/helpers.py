"""What the tests of several calls share: words, watched lists, and the tests that every call must pass."""

import contextlib
import copy
import io

from strandforms import crossings

ALL_N = range(2, 17)
LEAST = -2147483648
GREATEST = 2147483647
NO_N = (1, 0, -1, -2, -16, 17, 18, 255, LEAST, GREATEST)


def letters_of(n):
    return list(range(-(n - 1), 0)) + list(range(1, n))


def mixed_word(n, length, seed):
    """A word of both signs, the same one at each run of the tests."""
    letters = letters_of(n)
    word = []
    state = seed
    for _ in range(length):
        state = (state * 1103515245 + 12345) % 2147483648
        word.append(letters[(state >> 8) % len(letters)])
    return word


def opposite(word):
    """The word backwards, each sign changed: behind the word it undoes it."""
    return [-letter for letter in reversed(word)]


def untouchable(name):
    def refuse(self, *args, **kwargs):
        raise AssertionError(f"the list that was handed in was changed by {name}")
    return refuse


class Untouchable(list):
    """A list that fails the test as soon as it is changed, for a while only too."""


for changer in ("append", "clear", "extend", "insert", "pop", "remove", "reverse", "sort",
                "__setitem__", "__delitem__", "__iadd__", "__imul__"):
    setattr(Untouchable, changer, untouchable(changer))


def handed(arguments, kind=list):
    """The arguments of a call anew, each list made over into the given kind of list."""
    return [kind(one) if isinstance(one, list) else one for one in arguments]


class RefusesWhatIsNoWord:
    """For a call that is given a word: the edges of a letter, of n and of the word's length.

    A test class gives `ask(n, word)`, the call with its other arguments in their ranges.
    """

    def refused(self, n, word):
        answer = self.ask(n, word)
        self.assertEqual(answer, [-2], (n, word[:10]))
        self.assertIs(type(answer), list)
        self.assertIs(type(answer[0]), int)

    def taken(self, n, word):
        self.assertNotEqual(self.ask(n, word), [-2], (n, word[:10]))

    def test_every_number_from_minus_128_to_127(self):
        for n in ALL_N:
            letters = letters_of(n)
            for number in range(-128, 128):
                if number in letters:
                    self.taken(n, [number])
                else:
                    self.refused(n, [number])

    def test_what_is_no_letter_is_refused_wherever_it_stands(self):
        for n in ALL_N:
            good = mixed_word(n, 6, n)
            self.taken(n, good)
            for bad in (0, n, -n, n + 1, -n - 1, 127, -128):
                self.refused(n, [bad])
                self.refused(n, [bad, bad])
                for at in range(len(good) + 1):
                    self.refused(n, good[:at] + [bad] + good[at:])

    def test_one_bad_number_in_a_long_word(self):
        self.taken(16, [1, -1] * 2048)
        for bad in (0, 16, -16, 127, -128):
            self.refused(16, [1, -1] * 2047 + [1, bad])
            self.refused(16, [bad, 1] + [1, -1] * 2047)

    def test_more_than_4096_letters_are_refused(self):
        self.refused(2, [1, -1] * 2048 + [1])
        self.refused(16, [15, -15] * 2500)

    def test_n_out_of_its_range(self):
        for n in NO_N:
            self.refused(n, [])

    def test_n_at_its_edges(self):
        self.taken(2, [])
        self.taken(16, [])


class NothingChangedNothingKept:
    """For every call. A test class gives `call`, the function, and `CALLS`, arguments, some of them refused."""

    def test_the_lists_handed_in_are_as_they_were(self):
        for arguments in self.CALLS:
            given = handed(arguments)
            self.call(*given)
            self.assertEqual(given, list(arguments))

    def test_the_lists_handed_in_are_not_changed_for_a_while_either(self):
        for arguments in self.CALLS:
            self.assertEqual(self.call(*handed(arguments, Untouchable)), self.call(*handed(arguments)))

    def test_the_watched_list_sees_a_change(self):
        watched = Untouchable([1, 2])
        with self.assertRaises(AssertionError):
            watched[0] = 2
        with self.assertRaises(AssertionError):
            watched.append(1)

    def test_what_is_given_back_is_a_new_list_of_whole_numbers(self):
        for arguments in self.CALLS:
            given = handed(arguments)
            first = self.call(*given)
            second = self.call(*given)
            self.assertIs(type(first), list)
            for number in first:
                self.assertIs(type(number), int)
            self.assertIsNot(first, second)
            for one in given:
                self.assertIsNot(first, one)
            before = list(second)
            first.append(99)
            first[0] = 77
            self.assertEqual(given, list(arguments))
            self.assertEqual(second, before)
            self.assertEqual(self.call(*given), before)

    def test_the_same_answer_whatever_was_called_between(self):
        first = [self.call(*handed(arguments)) for arguments in self.CALLS]
        for arguments, answer in zip(self.CALLS, first):
            for others in self.CALLS:
                self.call(*handed(others))
                self.assertEqual(self.call(*handed(arguments)), answer)

    def test_nothing_of_the_module_changes(self):
        def kept():
            return {name: copy.deepcopy(value) for name, value in vars(crossings).items()
                    if not name.startswith("__")}
        before = kept()
        for arguments in self.CALLS:
            self.call(*handed(arguments))
        self.assertEqual(kept(), before)
        self.assertEqual(vars(self.call), {})
        self.assertIsNone(self.call.__defaults__)

    def test_it_prints_nothing(self):
        out = io.StringIO()
        with contextlib.redirect_stdout(out), contextlib.redirect_stderr(out):
            for arguments in self.CALLS:
                self.call(*handed(arguments))
        self.assertEqual(out.getvalue(), "")


def parameters(function):
    """The names of a function's arguments, in their order."""
    return function.__code__.co_varnames[:function.__code__.co_argcount]
