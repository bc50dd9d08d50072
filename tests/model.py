"""The words of the document told once more with Python's sets, slowly, to hold the program against."""

from itertools import combinations


def members(number):
    return frozenset(k for k in range(number.bit_length()) if number >> k & 1)


def number_of(some):
    return sum(2 ** k for k in some)


def subsets(some):
    ordered = sorted(some)
    return [frozenset(part) for size in range(len(ordered) + 1) for part in combinations(ordered, size)]


def as_sets(table):
    return {members(x): members(v) for x, v in enumerate(table)}


def as_table(given):
    return [number_of(given[members(x)]) for x in range(len(given))]


def grows(table):
    given = as_sets(table)
    return all(given[part] <= given[whole] for whole in given for part in subsets(whole))


def grows_one(table, o):
    given = as_sets(table)
    return all(o in given[whole] or o not in given[part] for whole in given for part in subsets(whole))


def adds(table):
    given = as_sets(table)
    return all(given[one | other] == given[one] | given[other] for one in given for other in given)


def shrinks(table):
    given = as_sets(table)
    found = []
    for whole in given:
        for part in subsets(whole):
            if given[part] - given[whole]:
                found.append([number_of(part), number_of(whole), number_of(given[part] - given[whole])])
    return min(found) if found else [-33]


def parts(table):
    given = as_sets(table)
    found = [
        [number_of(one), number_of(other)]
        for one in given for other in given if given[one | other] != given[one] | given[other]
    ]
    return min(found) if found else [-33]


def above(table):
    given = as_sets(table)
    return as_table({whole: frozenset().union(*[given[part] for part in subsets(whole)]) for whole in given})


def below(table):
    given = as_sets(table)
    return as_table({
        part: frozenset.intersection(*[given[whole] for whole in given if part <= whole]) for part in given
    })


def changes(old, new):
    return sum(1 for was, now in zip(old, new) if was != now)
