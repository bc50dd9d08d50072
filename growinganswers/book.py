"""The calls on one object that holds, of each set of inputs, which answers are given.

A set of inputs or of answers is a whole number: 2 to the power of each member's number, together.
So the table of what's given is a list, and a set of inputs is an index into it.
"""

NOT_BEGUN = -61
NOT_AS_TOLD = -22
NO_SUCH_ANSWER = -2
NOTHING_TO_SHOW = -33

MOST_INPUTS = 4
MOST_ANSWERS = 3

BEGIN = 0

# By a call's number: how many whole numbers it has, beside its row.
PLAIN_NUMBERS = (2, 2, 0, 0, 0, 0, 1, 0, 0, 0, 0, 1, 2, 2, 2, 0, 0, 1, 0, 1, 0, 0, 0, 0)
# The calls that have a row; none of them has other numbers.
ROW_CALLS = (2, 3, 15, 16, 18)


class Book:
    """What is kept from call to call."""

    def __init__(self):
        # An empty table stands for an object that isn't begun: one that is has two sets of inputs or more.
        self.given = []
        self.answer_count = 0

    def has_begun(self):
        return self.given != []

    def has_inputs(self, x):
        return x < len(self.given)

    def count_answer_sets(self):
        return 1 << self.answer_count

    def has_answers(self, v):
        return v < self.count_answer_sets()

    def has_answer(self, o):
        return o < self.answer_count


def is_part(x, y):
    return (x & y) == x


def first_loss(given):
    """The first two sets, the second with all of the first, and what's given no more; empty if it grows."""
    for x in range(len(given)):
        for y in range(len(given)):
            lost = given[x] & ~given[y]
            if is_part(x, y) and lost != 0:
                return [x, y, lost]
    return []


def first_surplus(given):
    """The first two sets of which together something else is given than of each; empty if it adds."""
    for x in range(len(given)):
        for y in range(len(given)):
            if given[x | y] != given[x] | given[y]:
                return [x, y]
    return []


def table_above(given):
    lifted = []
    for x in range(len(given)):
        told = 0
        for y in range(len(given)):
            if is_part(y, x):
                told = told | given[y]
        lifted.append(told)
    return lifted


def table_below(given):
    sunk = []
    for x in range(len(given)):
        kept = given[x]
        for y in range(len(given)):
            if is_part(x, y):
                kept = kept & given[y]
        sunk.append(kept)
    return sunk


def count_changes(old, new):
    return len([x for x in range(len(old)) if old[x] != new[x]])


def yes_or_no(holds):
    # Only whole numbers are answered, never True or False.
    return [1 if holds else 0]


def shown_or_refused(found):
    return found if found != [] else [NOTHING_TO_SHOW]


def is_row_of_answers(book, row, length):
    return len(row) == length and all([book.has_answers(v) for v in row])


def call_begin(book, numbers):
    inputs = numbers[0]
    answer_count = numbers[1]
    if inputs < 1 or inputs > MOST_INPUTS or answer_count < 1 or answer_count > MOST_ANSWERS:
        return [NOT_AS_TOLD]
    book.given = [0] * (1 << inputs)
    book.answer_count = answer_count
    return [0]


def call_answer(book, numbers):
    x = numbers[0]
    v = numbers[1]
    if not book.has_inputs(x) or not book.has_answers(v):
        return [NOT_AS_TOLD]
    before = book.given[x]
    book.given[x] = v
    return [before]


def call_table(book, row):
    if not is_row_of_answers(book, row, len(book.given)):
        return [NOT_AS_TOLD]
    book.given = list(row)
    return [0]


def call_behind(book, row):
    if not is_row_of_answers(book, row, book.count_answer_sets()):
        return [NOT_AS_TOLD]
    book.given = [row[v] for v in book.given]
    return [0]


def call_lift(book, numbers):
    before = book.given
    book.given = table_above(before)
    return [count_changes(before, book.given)]


def call_sink(book, numbers):
    before = book.given
    book.given = table_below(before)
    return [count_changes(before, book.given)]


def call_at(book, numbers):
    x = numbers[0]
    if not book.has_inputs(x):
        return [NOT_AS_TOLD]
    return [book.given[x]]


def call_grows(book, numbers):
    return yes_or_no(first_loss(book.given) == [])


def call_shrinks(book, numbers):
    return shown_or_refused(first_loss(book.given))


def call_adds(book, numbers):
    return yes_or_no(first_surplus(book.given) == [])


def call_parts(book, numbers):
    return shown_or_refused(first_surplus(book.given))


def call_grows_one(book, numbers):
    o = numbers[0]
    if not book.has_answer(o):
        return [NO_SUCH_ANSWER]
    alone = [v & (1 << o) for v in book.given]
    return yes_or_no(first_loss(alone) == [])


# By a call's number: what answers it.
ACTIONS = (
    call_begin,
    call_answer,
    call_table,
    call_behind,
    call_lift,
    call_sink,
    call_at,
    call_grows,
    call_shrinks,
    call_adds,
    call_parts,
    call_grows_one,
)


def answer_call(book, number, numbers):
    if number != BEGIN and not book.has_begun():
        return [NOT_BEGUN]
    if number >= len(ACTIONS):
        raise NotImplementedError(f"call {number} is not built yet")
    action = ACTIONS[number]
    return action(book, numbers)


def numbers_start(calls, start):
    # A row has its length before it.
    return start + 2 if calls[start] in ROW_CALLS else start + 1


def numbers_count(calls, start):
    return calls[start + 1] if calls[start] in ROW_CALLS else PLAIN_NUMBERS[calls[start]]


def answers(calls):
    """For each call, in order: how many numbers are answered; these."""
    book = Book()
    said = []
    start = 0
    while start < len(calls):
        first = numbers_start(calls, start)
        end = first + numbers_count(calls, start)
        # A slice is a copy: what is handed in stays as it is, whatever a call does with its numbers.
        told = answer_call(book, calls[start], calls[first:end])
        said.append(len(told))
        said.extend(told)
        start = end
    return said
