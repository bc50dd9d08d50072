"""The words of the document told once more with Python's sets, slowly, to hold the program against."""

from itertools import combinations, permutations


def members(number):
    return frozenset(k for k in range(number.bit_length()) if number >> k & 1)


def number_of(some):
    return sum(2 ** k for k in some)


def subsets(some):
    ordered = sorted(some)
    return [frozenset(part) for size in range(len(ordered) + 1) for part in combinations(ordered, size)]


def as_sets(table):
    return {members(x): members(v) for x, v in enumerate(table)}


def as_table(given):
    return [number_of(given[members(x)]) for x in range(len(given))]


def grows(table):
    given = as_sets(table)
    return all(given[part] <= given[whole] for whole in given for part in subsets(whole))


def grows_one(table, o):
    given = as_sets(table)
    return all(o in given[whole] or o not in given[part] for whole in given for part in subsets(whole))


def adds(table):
    given = as_sets(table)
    return all(given[one | other] == given[one] | given[other] for one in given for other in given)


def shrinks(table):
    given = as_sets(table)
    found = []
    for whole in given:
        for part in subsets(whole):
            if given[part] - given[whole]:
                found.append([number_of(part), number_of(whole), number_of(given[part] - given[whole])])
    return min(found) if found else [-33]


def parts(table):
    given = as_sets(table)
    found = [
        [number_of(one), number_of(other)]
        for one in given for other in given if given[one | other] != given[one] | given[other]
    ]
    return min(found) if found else [-33]


def above(table):
    given = as_sets(table)
    return as_table({whole: frozenset().union(*[given[part] for part in subsets(whole)]) for whole in given})


def below(table):
    given = as_sets(table)
    return as_table({
        part: frozenset.intersection(*[given[whole] for whole in given if part <= whole]) for part in given
    })


def changes(old, new):
    return sum(1 for was, now in zip(old, new) if was != now)


def ends(given, known, sealed):
    """The sets of inputs that it may end with."""
    return [end for end in given if known <= end and not sealed & end]


def sure(table, x, z):
    given = as_sets(table)
    return [number_of(frozenset.intersection(*[given[end] for end in ends(given, members(x), members(z))]))]


def may(table, x, z):
    given = as_sets(table)
    return [number_of(frozenset().union(*[given[end] for end in ends(given, members(x), members(z))]))]


def waits(table, x, o):
    given = as_sets(table)
    known = members(x)
    if o not in given[known]:
        return [-33]
    others = frozenset().union(*given) - known
    enough = [
        sealed for sealed in subsets(others) if all(o in given[end] for end in ends(given, known, sealed))
    ]
    return list(min((len(sealed), number_of(sealed)) for sealed in enough))


def steps(given, order):
    return [given[frozenset(order[:length])] for length in range(len(order) + 1)]


def taken_back(given, order):
    told_first_to_last = steps(given, order)
    return frozenset(o for told_then in told_first_to_last for o in told_then if o not in told_first_to_last[-1])


def told(table, order):
    told_first_to_last = steps(as_sets(table), order)
    return [len(told_first_to_last)] + [number_of(some) for some in told_first_to_last]


def wrong(table, order):
    return [number_of(taken_back(as_sets(table), order))]


def worst(table, x):
    given = as_sets(table)
    return [number_of(frozenset().union(*[taken_back(given, order) for order in permutations(members(x))]))]


def apart(table, row):
    given = as_sets(table)
    each = frozenset().union(*[given[members(x)] for x in row])
    together = given[frozenset().union(*[members(x) for x in row])]
    return [number_of(each), number_of(together), number_of(together - each), number_of(each - together)]


def least(table, o):
    given = as_sets(table)
    found = sorted(
        number_of(some) for some in given
        if o in given[some] and not any(o in given[part] for part in subsets(some) if part < some)
    )
    return [len(found)] + found


def up(table):
    return [len(table)] + above(table)


def down(table):
    return [len(table)] + below(table)


def grade(table):
    if adds(table):
        return [0]
    return [1] if grows(table) else [2]


def state(table, answer_count):
    return [len(frozenset().union(*as_sets(table))), answer_count] + table
