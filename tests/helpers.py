"""What the tests of several calls share: words, watched lists, and the tests that every call must pass."""

import contextlib
import copy
import io
import signal

from strandforms import crossings

ALL_N = range(2, 17)
LEAST = -2147483648
GREATEST = 2147483647
NO_N = (1, 0, -1, -2, -16, 17, 18, 255, LEAST, GREATEST)


def letters_of(n):
    return list(range(-(n - 1), 0)) + list(range(1, n))


class Choices:
    """Choices that look mixed and are the same ones at each run of the tests."""

    def __init__(self, seed):
        self.state = seed

    def below(self, bound):
        self.state = (self.state * 1103515245 + 12345) % 2147483648
        return (self.state >> 8) % bound

    def one_of(self, things):
        return things[self.below(len(things))]


def mixed_word(n, length, seed):
    """A word of both signs."""
    choices = Choices(seed)
    letters = letters_of(n)
    return [choices.one_of(letters) for _ in range(length)]


def opposite(word):
    """The word backwards, each sign changed: behind the word it undoes it."""
    return [-letter for letter in reversed(word)]


def put_in(n, word, choices):
    letter = choices.one_of(letters_of(n))
    at = choices.below(len(word) + 1)
    return word[:at] + [letter, -letter] + word[at:]


def take_out(n, word, choices):
    fits = [at for at in range(len(word) - 1) if word[at] == -word[at + 1]]
    if not fits:
        return word
    at = choices.one_of(fits)
    return word[:at] + word[at + 2:]


def exchange(n, word, choices):
    fits = [at for at in range(len(word) - 1) if abs(abs(word[at]) - abs(word[at + 1])) >= 2]
    if not fits:
        return word
    at = choices.one_of(fits)
    return word[:at] + [word[at + 1], word[at]] + word[at + 2:]


def slide(n, word, choices):
    """i, i + 1, i made i + 1, i, i + 1, or the other way round; where none is there, one is put in first."""
    if n == 2:
        return word
    fits = [at for at in range(len(word) - 2)
            if word[at] > 0 and word[at] == word[at + 2] and abs(word[at] - word[at + 1]) == 1 and word[at + 1] > 0]
    if not fits:
        i = 1 + choices.below(n - 2)
        bump = choices.one_of([[i, i + 1, i], [i + 1, i, i + 1]])
        fits = [choices.below(len(word) + 1)]
        word = word[:fits[0]] + bump + opposite(bump) + word[fits[0]:]
    at = choices.one_of(fits)
    return word[:at] + [word[at + 1], word[at], word[at + 1]] + word[at + 3:]


WAYS = (put_in, take_out, exchange, slide)


def after_steps(n, word, many, seed):
    """Another word of the same braid: after so many steps, one way or another."""
    choices = Choices(seed)
    for _ in range(many):
        word = choices.one_of(WAYS)(n, word, choices)
    return word


def lace(n, word):
    """Numbers that two words share just where they mean the same braid (Dynnikov's coordinates of a lace).

    They know nothing of forms, so they are held against what is told by forms.
    """
    a = [0] * n
    b = [1] * n
    for letter in word:
        left = abs(letter) - 1
        right = left + 1
        al, bl, ar, br = a[left], b[left], a[right], b[right]
        if letter > 0:
            c = al - min(bl, 0) - ar + max(br, 0)
            a[left] = al + max(bl, 0) + max(max(br, 0) - c, 0)
            b[left] = br - max(c, 0)
            a[right] = ar + min(br, 0) + min(min(bl, 0) + c, 0)
            b[right] = bl + max(c, 0)
        else:
            c = al + min(bl, 0) - ar - max(br, 0)
            a[left] = al - max(bl, 0) - max(max(br, 0) + c, 0)
            b[left] = br + min(c, 0)
            a[right] = ar - min(br, 0) - min(min(bl, 0) - c, 0)
            b[right] = bl - min(c, 0)
    return a + b


def spelled_row(row):
    """A word of letters above 0, as many as the row has pairs, by which the strands come to the row's places."""
    row = list(row)
    word = []
    undone = False
    while not undone:
        undone = True
        for i in range(len(row) - 1, 0, -1):
            if row[i - 1] > row[i]:
                row[i - 1], row[i] = row[i], row[i - 1]
                word.append(i)
                undone = False
    return word[::-1]


def the_turn(n):
    return list(range(n - 1, -1, -1))


def spelled(n, turns, rows):
    """A word for so many turns and then these rows' braids."""
    turn = spelled_row(the_turn(n))
    word = (turn if turns >= 0 else opposite(turn)) * abs(turns)
    for row in rows:
        word.extend(spelled_row(row))
    return word


def cut(n, numbers):
    """The rows that stand one behind another in these numbers."""
    return [numbers[at:at + n] for at in range(0, len(numbers), n)]


@contextlib.contextmanager
def within(seconds):
    """Fails what takes longer than a test can wait for, instead of waiting."""
    def too_long(number, frame):
        raise AssertionError(f"not done within {seconds} seconds")
    before = signal.signal(signal.SIGALRM, too_long)
    signal.alarm(seconds)
    try:
        yield
    finally:
        signal.alarm(0)
        signal.signal(signal.SIGALRM, before)


def untouchable(name):
    def refuse(self, *args, **kwargs):
        raise AssertionError(f"the list that was handed in was changed by {name}")
    return refuse


class Untouchable(list):
    """A list that fails the test as soon as it is changed, for a while only too."""


for changer in ("append", "clear", "extend", "insert", "pop", "remove", "reverse", "sort",
                "__setitem__", "__delitem__", "__iadd__", "__imul__"):
    setattr(Untouchable, changer, untouchable(changer))


def handed(arguments, kind=list):
    """The arguments of a call anew, each list made over into the given kind of list."""
    return [kind(one) if isinstance(one, list) else one for one in arguments]


class RefusesWhatIsNoWord:
    """For a call that is given a word: the edges of a letter, of n and of the word's length.

    A test class gives `ask(n, word)`, the call with its other arguments in their ranges.
    """

    def refused(self, n, word):
        answer = self.ask(n, word)
        self.assertEqual(answer, [-2], (n, word[:10]))
        self.assertIs(type(answer), list)
        self.assertIs(type(answer[0]), int)

    def taken(self, n, word):
        self.assertNotEqual(self.ask(n, word), [-2], (n, word[:10]))

    def test_every_number_from_minus_128_to_127(self):
        for n in ALL_N:
            letters = letters_of(n)
            for number in range(-128, 128):
                if number in letters:
                    self.taken(n, [number])
                else:
                    self.refused(n, [number])

    def test_what_is_no_letter_is_refused_wherever_it_stands(self):
        for n in ALL_N:
            good = mixed_word(n, 6, n)
            self.taken(n, good)
            for bad in (0, n, -n, n + 1, -n - 1, 127, -128):
                self.refused(n, [bad])
                self.refused(n, [bad, bad])
                for at in range(len(good) + 1):
                    self.refused(n, good[:at] + [bad] + good[at:])

    def test_one_bad_number_in_a_long_word(self):
        self.taken(16, [1, -1] * 2048)
        for bad in (0, 16, -16, 127, -128):
            self.refused(16, [1, -1] * 2047 + [1, bad])
            self.refused(16, [bad, 1] + [1, -1] * 2047)

    def test_more_than_4096_letters_are_refused(self):
        self.refused(2, [1, -1] * 2048 + [1])
        self.refused(16, [15, -15] * 2500)

    def test_n_out_of_its_range(self):
        for n in NO_N:
            self.refused(n, [])

    def test_n_at_its_edges(self):
        self.taken(2, [])
        self.taken(16, [])


class NothingChangedNothingKept:
    """For every call. A test class gives `call`, the function, and `CALLS`, arguments, some of them refused."""

    def test_the_lists_handed_in_are_as_they_were(self):
        for arguments in self.CALLS:
            given = handed(arguments)
            self.call(*given)
            self.assertEqual(given, list(arguments))

    def test_the_lists_handed_in_are_not_changed_for_a_while_either(self):
        for arguments in self.CALLS:
            self.assertEqual(self.call(*handed(arguments, Untouchable)), self.call(*handed(arguments)))

    def test_the_watched_list_sees_a_change(self):
        watched = Untouchable([1, 2])
        with self.assertRaises(AssertionError):
            watched[0] = 2
        with self.assertRaises(AssertionError):
            watched.append(1)

    def test_what_is_given_back_is_a_new_list_of_whole_numbers(self):
        for arguments in self.CALLS:
            given = handed(arguments)
            first = self.call(*given)
            second = self.call(*given)
            self.assertIs(type(first), list)
            for number in first:
                self.assertIs(type(number), int)
            self.assertIsNot(first, second)
            for one in given:
                self.assertIsNot(first, one)
            before = list(second)
            first.append(99)
            first[0] = 77
            self.assertEqual(given, list(arguments))
            self.assertEqual(second, before)
            self.assertEqual(self.call(*given), before)

    def test_the_same_answer_whatever_was_called_between(self):
        first = [self.call(*handed(arguments)) for arguments in self.CALLS]
        for arguments, answer in zip(self.CALLS, first):
            for others in self.CALLS:
                self.call(*handed(others))
                self.assertEqual(self.call(*handed(arguments)), answer)

    def test_nothing_of_the_module_changes(self):
        def kept():
            return {name: copy.deepcopy(value) for name, value in vars(crossings).items()
                    if not name.startswith("__")}
        before = kept()
        for arguments in self.CALLS:
            self.call(*handed(arguments))
        self.assertEqual(kept(), before)
        self.assertEqual(vars(self.call), {})
        self.assertIsNone(self.call.__defaults__)

    def test_it_prints_nothing(self):
        out = io.StringIO()
        with contextlib.redirect_stdout(out), contextlib.redirect_stderr(out):
            for arguments in self.CALLS:
                self.call(*handed(arguments))
        self.assertEqual(out.getvalue(), "")


def parameters(function):
    """The names of a function's arguments, in their order."""
    return function.__code__.co_varnames[:function.__code__.co_argcount]
