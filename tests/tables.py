"""Tables, and all that may be asked of one, for the tests that go over many of them."""

from itertools import permutations, product
from random import Random

from tests import model


def small_tables():
    for inputs, answer_count in ((1, 1), (1, 2), (1, 3), (2, 1), (2, 2), (3, 1)):
        for table in product(range(1 << answer_count), repeat=1 << inputs):
            yield inputs, answer_count, list(table)


def greater_tables():
    chance = Random(20)
    for inputs, answer_count in ((2, 3), (3, 2), (3, 3), (4, 1), (4, 2), (4, 3)):
        for round_number in range(60):
            table = [chance.randrange(1 << answer_count) for x in range(1 << inputs)]
            yield inputs, answer_count, table
            # Chance alone hardly ever makes a table that grows or nearly does.
            grown = model.above(table[:2] + [0] * (len(table) - 2)) if round_number % 2 else model.below(table)
            yield inputs, answer_count, grown
            grown = list(grown)
            grown[chance.randrange(len(grown))] = chance.randrange(1 << answer_count)
            yield inputs, answer_count, grown
            yield inputs, answer_count, adding_table(chance, inputs, answer_count)


def adding_table(chance, inputs, answer_count):
    base = chance.randrange(1 << answer_count)
    alone = [chance.randrange(1 << answer_count) for k in range(inputs)]
    table = []
    for x in range(1 << inputs):
        told = base
        for k in model.members(x):
            told |= alone[k]
        table.append(told)
    return table


def orders(inputs):
    """All orders of some inputs, each once."""
    return [list(order) for length in range(inputs + 1) for order in permutations(range(inputs), length)]


def known_and_sealed(inputs):
    """All pairs of sets with no input in both."""
    return [(x, z) for x in range(1 << inputs) for z in range(1 << inputs) if x & z == 0]


def questions(inputs, answer_count):
    """The calls 12 to 23 with all that isn't refused; of apart only one set, or two."""
    sets = range(1 << inputs)
    calls = [("up",), ("down",), ("grade",), ("state",)]
    calls += [("least", o) for o in range(answer_count)]
    calls += [("waits", x, o) for x in sets for o in range(answer_count)]
    calls += [("worst", x) for x in sets]
    calls += [(name, x, z) for name in ("sure", "may") for x, z in known_and_sealed(inputs)]
    calls += [(name, order) for name in ("told", "wrong") for order in orders(inputs)]
    calls += [("apart", [x]) for x in sets]
    calls += [("apart", [x, y]) for x in sets for y in sets]
    return calls
