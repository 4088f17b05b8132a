"""Words of letters, and what they do to the strands of a braid."""

FEWEST_STRANDS = 2
MOST_STRANDS = 16
MOST_LETTERS = 4096

DONE = 0
OUT_OF_RANGE = -2

# Added to a count that may be below 0, so that no answer looks like a refusal.
COUNT_OF_NOTHING = 8192


def is_letter(n, number):
    return 1 <= abs(number) <= n - 1


def is_word(n, w):
    if not FEWEST_STRANDS <= n <= MOST_STRANDS:
        return False
    if len(w) > MOST_LETTERS:
        return False
    for number in w:
        if not is_letter(n, number):
            return False
    return True


def sign(letter):
    return 1 if letter > 0 else -1


def is_strand(n, number):
    return 0 <= number <= n - 1


def cross(row, letter):
    # The sign says which strand passes before the other; both signs move the strands alike.
    right = abs(letter)
    left = right - 1
    strand = row[left]
    row[left] = row[right]
    row[right] = strand


def places(n, w):
    if not is_word(n, w):
        return [OUT_OF_RANGE]
    row = list(range(n))
    for letter in w:
        cross(row, letter)
    return [DONE] + row


def sum_of(n, w):
    if not is_word(n, w):
        return [OUT_OF_RANGE]
    count = COUNT_OF_NOTHING
    for letter in w:
        count += sign(letter)
    return [count]


def between(n, i, j, w):
    if not is_word(n, w):
        return [OUT_OF_RANGE]
    if not is_strand(n, i) or not is_strand(n, j) or i == j:
        return [OUT_OF_RANGE]
    count = COUNT_OF_NOTHING
    row = list(range(n))
    for letter in w:
        crossing = row[abs(letter) - 1:abs(letter) + 1]
        if i in crossing and j in crossing:
            count += sign(letter)
        cross(row, letter)
    return [count]
