"""Words of letters, and what they do to the strands of a braid."""

FEWEST_STRANDS = 2
MOST_STRANDS = 16
MOST_LETTERS = 4096
MOST_ROWS = 4096
MOST_TURNS = 4096

DONE = 0
OUT_OF_RANGE = -2
TOO_MANY = -3

# Added to a count that may be below 0, so that no answer looks like a refusal.
COUNT_OF_NOTHING = 8192

# So many settled neighbours are kept while one braid is built: enough for words that repeat
# themselves, and few enough that a long word doesn't fill the memory.
MOST_KNOWN = 4096


def can_hang(n):
    return FEWEST_STRANDS <= n <= MOST_STRANDS


def is_letter(n, number):
    return 1 <= abs(number) <= n - 1


def is_word(n, w):
    if not can_hang(n) or len(w) > MOST_LETTERS:
        return False
    for number in w:
        if not is_letter(n, number):
            return False
    return True


def sign(letter):
    return 1 if letter > 0 else -1


def is_strand(n, number):
    return 0 <= number <= n - 1


def none_of(n):
    return list(range(n))


def turn_of(n):
    return list(range(n - 1, -1, -1))


def is_row(n, numbers):
    return sorted(numbers) == none_of(n)


def cross(row, letter):
    # The sign says which strand passes before the other; both signs move the strands alike.
    right = abs(letter)
    left = right - 1
    strand = row[left]
    row[left] = row[right]
    row[right] = strand


def strand_places(row):
    where = [0] * len(row)
    for place in range(len(row)):
        where[row[place]] = place
    return where


def turned_over(row):
    # A turn passes a row's braid if left and right are exchanged in it.
    last = len(row) - 1
    return tuple([last - strand for strand in reversed(row)])


def sink(row, where, place):
    # A letter goes over from the second row's beginning to the first row's end: of the first row's strands
    # by place and of the second row's places by strand, the same two neighbours change.
    strand = row[place]
    goal = where[place]
    while place > 0 and row[place - 1] < strand and where[place - 1] > goal:
        row[place] = row[place - 1]
        where[place] = where[place - 1]
        place -= 1
    row[place] = strand
    where[place] = goal


def settled(first, second):
    # The braid stays the same; after it the first row ends with every letter with which the second begins.
    row = list(first)
    where = strand_places(second)
    for place in range(1, len(row)):
        sink(row, where, place)
    return (tuple(row), tuple(strand_places(where)))


# A braid as rows like those of a form, and then its turns: while letters are put behind it, the turns
# stand last, so that a new turn passes only the rows behind it, which were just looked at.
class Braid:
    def __init__(self, n):
        self.none = tuple(none_of(n))
        self.turn = tuple(turn_of(n))
        self.rows = []
        self.turns = 0
        self.known = {}

    def put_letter(self, letter):
        row = list(self.none)
        if letter < 0:
            # Letter -i is a turn undone and then the turn without its last letter i.
            row = list(self.turn)
            self.turns -= 1
        cross(row, letter)
        self.put_row(tuple(row))

    def put_row(self, row):
        self.rows.append(turned_over(row) if self.turns % 2 == 1 else row)
        at = self.settle()
        if self.rows[at] == self.turn:
            self.free_turn(at)
        if len(self.rows) > 0 and self.rows[-1] == self.none:
            self.rows.pop()

    def settle(self):
        # What is put behind settled rows needs one way from the last row on; the answer is where it ended.
        rows = self.rows
        at = len(rows) - 1
        while at > 0 and rows[at] != self.turn:
            neighbours = (rows[at - 1], rows[at])
            after = self.settled_neighbours(neighbours)
            if after == neighbours:
                break
            rows[at - 1] = after[0]
            rows[at] = after[1]
            at -= 1
        return at

    def settled_neighbours(self, neighbours):
        if neighbours not in self.known:
            if len(self.known) == MOST_KNOWN:
                self.known.clear()
            self.known[neighbours] = settled(neighbours[0], neighbours[1])
        return self.known[neighbours]

    def free_turn(self, at):
        behind = [turned_over(row) for row in self.rows[at + 1:]]
        self.rows = self.rows[:at] + behind
        self.turns += 1

    def form_rows(self):
        if self.turns % 2 == 1:
            return [turned_over(row) for row in self.rows]
        return list(self.rows)


def braid_of(n, w):
    braid = Braid(n)
    for letter in w:
        braid.put_letter(letter)
    return braid


def first_word(row):
    # The strands' places are put in order from the left on. So each letter is the smallest with which what is
    # still to come begins, and none is more than a shortest word needs.
    where = strand_places(row)
    word = []
    for strand in range(1, len(row)):
        letter = strand
        while letter > 0 and where[letter - 1] > where[letter]:
            cross(where, letter)
            word.append(letter)
            letter -= 1
    return word


def undone(word):
    return [-letter for letter in reversed(word)]


def turns_word(n, turns):
    word = first_word(turn_of(n))
    if turns < 0:
        word = undone(word)
    return word * abs(turns)


def cut_rows(k, n, numbers):
    return [numbers[at * n:at * n + n] for at in range(k)]


def are_rows(k, n, numbers):
    if not can_hang(n) or not 0 <= k <= MOST_ROWS:
        return False
    for row in cut_rows(k, n, numbers):
        if not is_row(n, row):
            return False
    return True


def places(n, w):
    if not is_word(n, w):
        return [OUT_OF_RANGE]
    row = none_of(n)
    for letter in w:
        cross(row, letter)
    return [DONE] + row


def sum_of(n, w):
    if not is_word(n, w):
        return [OUT_OF_RANGE]
    count = COUNT_OF_NOTHING
    for letter in w:
        count += sign(letter)
    return [count]


def between(n, i, j, w):
    if not is_word(n, w):
        return [OUT_OF_RANGE]
    if not is_strand(n, i) or not is_strand(n, j) or i == j:
        return [OUT_OF_RANGE]
    count = COUNT_OF_NOTHING
    row = none_of(n)
    for letter in w:
        crossing = row[abs(letter) - 1:abs(letter) + 1]
        if i in crossing and j in crossing:
            count += sign(letter)
        cross(row, letter)
    return [count]


def form(n, most, w):
    if not is_word(n, w) or most < 0:
        return [OUT_OF_RANGE]
    braid = braid_of(n, w)
    if len(braid.rows) > most:
        return [TOO_MANY]
    answer = [len(braid.rows), braid.turns]
    for row in braid.form_rows():
        answer.extend(row)
    return answer


def same(n, w, v):
    if not is_word(n, w) or not is_word(n, v):
        return [OUT_OF_RANGE]
    one = braid_of(n, w)
    other = braid_of(n, v)
    # Where the turns are as many, they stand behind the rows in both alike: the rows need not be turned over.
    return [1 if one.turns == other.turns and one.rows == other.rows else 0]


def write(turns, k, n, most, rows):
    if not are_rows(k, n, rows) or abs(turns) > MOST_TURNS or most < 0:
        return [OUT_OF_RANGE]
    word = turns_word(n, turns)
    for row in cut_rows(k, n, rows):
        word.extend(first_word(row))
    if len(word) > most:
        return [TOO_MANY]
    return [len(word)] + word
