"""The calls on one object that holds, of each set of inputs, which answers are given.

A set of inputs or of answers is a whole number: 2 to the power of each member's number, together.
So the table of what's given is a list, and a set of inputs is an index into it.
"""

NOT_BEGUN = -61
NOT_AS_TOLD = -22
NO_SUCH_ANSWER = -2
NOTHING_TO_SHOW = -33

MOST_INPUTS = 4
MOST_ANSWERS = 3

BEGIN = 0

# By a call's number: how many whole numbers it has, beside its row.
PLAIN_NUMBERS = (2, 2, 0, 0, 0, 0, 1, 0, 0, 0, 0, 1, 2, 2, 2, 0, 0, 1, 0, 1, 0, 0, 0, 0)
# The calls that have a row; none of them has other numbers.
ROW_CALLS = (2, 3, 15, 16, 18)


class Book:
    """What is kept from call to call."""

    def __init__(self):
        # An empty table stands for an object that isn't begun: one that is has two sets of inputs or more.
        self.given = []
        self.answer_count = 0

    def has_begun(self):
        return self.given != []

    def count_inputs(self):
        # There are 2 to the power of it sets of inputs.
        return len(self.given).bit_length() - 1

    def has_input(self, k):
        return k < self.count_inputs()

    def has_inputs(self, x):
        return x < len(self.given)

    def count_answer_sets(self):
        return 1 << self.answer_count

    def has_answers(self, v):
        return v < self.count_answer_sets()

    def has_answer(self, o):
        return o < self.answer_count


def is_part(x, y):
    return (x & y) == x


def count_members(x):
    count = 0
    while x != 0:
        count = count + (x & 1)
        x = x >> 1
    return count


def parts_of(x):
    return [y for y in range(x + 1) if is_part(y, x)]


def still_open(given, x, z):
    """The sets of inputs that it may end with, x known and z sealed; x is one of them if no input is in both."""
    return [y for y in range(len(given)) if is_part(x, y) and (y & z) == 0]


def given_of_any(given, sets):
    told = 0
    for x in sets:
        told = told | given[x]
    return told


def given_of_each(given, sets):
    kept = given[sets[0]]
    for x in sets:
        kept = kept & given[x]
    return kept


def first_loss(given):
    """The first two sets, the second with all of the first, and what's given no more; empty if it grows."""
    for x in range(len(given)):
        for y in range(len(given)):
            lost = given[x] & ~given[y]
            if is_part(x, y) and lost != 0:
                return [x, y, lost]
    return []


def first_surplus(given):
    """The first two sets of which together something else is given than of each; empty if it adds."""
    for x in range(len(given)):
        for y in range(len(given)):
            if given[x | y] != given[x] | given[y]:
                return [x, y]
    return []


def table_above(given):
    return [given_of_any(given, parts_of(x)) for x in range(len(given))]


def table_below(given):
    return [given_of_each(given, still_open(given, x, 0)) for x in range(len(given))]


def table_alone(given, o):
    """What's given, if answer o is the only one that's looked at."""
    return [v & (1 << o) for v in given]


def least_sets(given, o):
    alone = table_alone(given, o)
    found = []
    for x in range(len(alone)):
        lesser = [y for y in parts_of(x) if y != x]
        if alone[x] != 0 and given_of_any(alone, lesser) == 0:
            found.append(x)
    return found


def fewest_sealed(given, x, o):
    """How many inputs have to be sealed, and the first such set; o is given of x, so all but x's are enough."""
    alone = table_alone(given, o)
    fewest = []
    for z in range(len(alone)):
        enough = (x & z) == 0 and given_of_each(alone, still_open(alone, x, z)) != 0
        if enough and (fewest == [] or count_members(z) < fewest[0]):
            fewest = [count_members(z), z]
    return fewest


def steps_of(order):
    """The sets of inputs that are there: at first none, then behind each input."""
    steps = [0]
    for k in order:
        steps.append(steps[-1] | (1 << k))
    return steps


def count_changes(old, new):
    return len([x for x in range(len(old)) if old[x] != new[x]])


def yes_or_no(holds):
    # Only whole numbers are answered, never True or False.
    return [1 if holds else 0]


def shown_or_refused(found):
    return found if found != [] else [NOTHING_TO_SHOW]


def is_row_of_answers(book, row, length):
    return len(row) == length and all([book.has_answers(v) for v in row])


def is_order(book, row):
    return all([book.has_input(k) and row.count(k) == 1 for k in row])


def is_known_and_sealed(book, x, z):
    return book.has_inputs(x) and book.has_inputs(z) and (x & z) == 0


def call_begin(book, numbers):
    inputs = numbers[0]
    answer_count = numbers[1]
    if inputs < 1 or inputs > MOST_INPUTS or answer_count < 1 or answer_count > MOST_ANSWERS:
        return [NOT_AS_TOLD]
    book.given = [0] * (1 << inputs)
    book.answer_count = answer_count
    return [0]


def call_answer(book, numbers):
    x = numbers[0]
    v = numbers[1]
    if not book.has_inputs(x) or not book.has_answers(v):
        return [NOT_AS_TOLD]
    before = book.given[x]
    book.given[x] = v
    return [before]


def call_table(book, row):
    if not is_row_of_answers(book, row, len(book.given)):
        return [NOT_AS_TOLD]
    book.given = list(row)
    return [0]


def call_behind(book, row):
    if not is_row_of_answers(book, row, book.count_answer_sets()):
        return [NOT_AS_TOLD]
    book.given = [row[v] for v in book.given]
    return [0]


def call_lift(book, numbers):
    before = book.given
    book.given = table_above(before)
    return [count_changes(before, book.given)]


def call_sink(book, numbers):
    before = book.given
    book.given = table_below(before)
    return [count_changes(before, book.given)]


def call_at(book, numbers):
    x = numbers[0]
    if not book.has_inputs(x):
        return [NOT_AS_TOLD]
    return [book.given[x]]


def call_grows(book, numbers):
    return yes_or_no(first_loss(book.given) == [])


def call_shrinks(book, numbers):
    return shown_or_refused(first_loss(book.given))


def call_adds(book, numbers):
    return yes_or_no(first_surplus(book.given) == [])


def call_parts(book, numbers):
    return shown_or_refused(first_surplus(book.given))


def call_grows_one(book, numbers):
    o = numbers[0]
    if not book.has_answer(o):
        return [NO_SUCH_ANSWER]
    return yes_or_no(first_loss(table_alone(book.given, o)) == [])


def call_sure(book, numbers):
    x = numbers[0]
    z = numbers[1]
    if not is_known_and_sealed(book, x, z):
        return [NOT_AS_TOLD]
    return [given_of_each(book.given, still_open(book.given, x, z))]


def call_may(book, numbers):
    x = numbers[0]
    z = numbers[1]
    if not is_known_and_sealed(book, x, z):
        return [NOT_AS_TOLD]
    return [given_of_any(book.given, still_open(book.given, x, z))]


def call_waits(book, numbers):
    x = numbers[0]
    o = numbers[1]
    if not book.has_answer(o):
        return [NO_SUCH_ANSWER]
    if not book.has_inputs(x):
        return [NOT_AS_TOLD]
    if (book.given[x] & (1 << o)) == 0:
        return [NOTHING_TO_SHOW]
    return fewest_sealed(book.given, x, o)


def call_told(book, row):
    if not is_order(book, row):
        return [NOT_AS_TOLD]
    steps = steps_of(row)
    return [len(steps)] + [book.given[x] for x in steps]


def call_wrong(book, row):
    if not is_order(book, row):
        return [NOT_AS_TOLD]
    steps = steps_of(row)
    return [given_of_any(book.given, steps) & ~book.given[steps[-1]]]


def call_worst(book, numbers):
    x = numbers[0]
    if not book.has_inputs(x):
        return [NOT_AS_TOLD]
    # Each part of x is a step of some order of x's inputs.
    return [given_of_any(book.given, parts_of(x)) & ~book.given[x]]


def call_apart(book, row):
    if row == [] or not all([book.has_inputs(x) for x in row]):
        return [NOT_AS_TOLD]
    together = 0
    for x in row:
        together = together | x
    apart = given_of_any(book.given, row)
    whole = book.given[together]
    return [apart, whole, whole & ~apart, apart & ~whole]


def call_least(book, numbers):
    o = numbers[0]
    if not book.has_answer(o):
        return [NO_SUCH_ANSWER]
    found = least_sets(book.given, o)
    return [len(found)] + found


def call_up(book, numbers):
    return [len(book.given)] + table_above(book.given)


def call_down(book, numbers):
    return [len(book.given)] + table_below(book.given)


def call_grade(book, numbers):
    if first_surplus(book.given) == []:
        return [0]
    return [1] if first_loss(book.given) == [] else [2]


def call_state(book, numbers):
    return [book.count_inputs(), book.answer_count] + book.given


# By a call's number: what answers it.
ACTIONS = (
    call_begin,
    call_answer,
    call_table,
    call_behind,
    call_lift,
    call_sink,
    call_at,
    call_grows,
    call_shrinks,
    call_adds,
    call_parts,
    call_grows_one,
    call_sure,
    call_may,
    call_waits,
    call_told,
    call_wrong,
    call_worst,
    call_apart,
    call_least,
    call_up,
    call_down,
    call_grade,
    call_state,
)


def answer_call(book, number, numbers):
    if number != BEGIN and not book.has_begun():
        return [NOT_BEGUN]
    action = ACTIONS[number]
    return action(book, numbers)


def numbers_start(calls, start):
    # A row has its length before it.
    return start + 2 if calls[start] in ROW_CALLS else start + 1


def numbers_count(calls, start):
    return calls[start + 1] if calls[start] in ROW_CALLS else PLAIN_NUMBERS[calls[start]]


def answers(calls):
    """For each call, in order: how many numbers are answered; these."""
    book = Book()
    said = []
    start = 0
    while start < len(calls):
        first = numbers_start(calls, start)
        end = first + numbers_count(calls, start)
        # A slice is a copy: what is handed in stays as it is, whatever a call does with its numbers.
        told = answer_call(book, calls[start], calls[first:end])
        said.append(len(told))
        said.extend(told)
        start = end
    return said
