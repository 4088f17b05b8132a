"""Words of letters, and what they do to the strands of a braid."""

FEWEST_STRANDS = 2
MOST_STRANDS = 16
MOST_LETTERS = 4096

DONE = 0
OUT_OF_RANGE = -2


def is_letter(n, number):
    return 1 <= abs(number) <= n - 1


def is_word(n, w):
    if not FEWEST_STRANDS <= n <= MOST_STRANDS:
        return False
    if len(w) > MOST_LETTERS:
        return False
    for number in w:
        if not is_letter(n, number):
            return False
    return True


def cross(row, letter):
    # The sign says which strand passes before the other; both signs move the strands alike.
    right = abs(letter)
    left = right - 1
    strand = row[left]
    row[left] = row[right]
    row[right] = strand


def places(n, w):
    if not is_word(n, w):
        return [OUT_OF_RANGE]
    row = list(range(n))
    for letter in w:
        cross(row, letter)
    return [DONE] + row
