"""Calls by their names, and their answers call by call."""

from growinganswers.book import answers

GREATEST = 2147483647

# By a call's name: its number, how many whole numbers it has, whether it has a row.
# Told here anew, so that the program's own table is tested.
SHAPES = {
    "begin": (0, 2, False), "answer": (1, 2, False), "table": (2, 0, True), "behind": (3, 0, True),
    "lift": (4, 0, False), "sink": (5, 0, False), "at": (6, 1, False), "grows": (7, 0, False),
    "shrinks": (8, 0, False), "adds": (9, 0, False), "parts": (10, 0, False), "grows_one": (11, 1, False),
    "sure": (12, 2, False), "may": (13, 2, False), "waits": (14, 2, False), "told": (15, 0, True),
    "wrong": (16, 0, True), "worst": (17, 1, False), "apart": (18, 0, True), "least": (19, 1, False),
    "up": (20, 0, False), "down": (21, 0, False), "grade": (22, 0, False), "state": (23, 0, False),
}


def encode(call):
    """A call is its name and its numbers, or its name and one list, its row."""
    number, count, has_row = SHAPES[call[0]]
    if has_row:
        row = call[1]
        return [number, len(row)] + row
    assert len(call) == count + 1, call
    return [number] + list(call[1:])


def encode_all(calls):
    line = []
    for call in calls:
        line.extend(encode(call))
    return line


def decode(said):
    told = []
    place = 0
    while place < len(said):
        end = place + 1 + said[place]
        assert said[place] >= 1 and end <= len(said), said
        told.append(said[place + 1:end])
        place = end
    return told


def ask(*calls):
    """The answers, one list a call."""
    line = encode_all(calls)
    # No test asks more than the document lets be handed in.
    assert 1 <= len(calls) <= 60 and len(line) <= 1200, calls
    told = decode(answers(line))
    assert len(told) == len(calls), (calls, told)
    return told


def ask_last(*calls):
    return ask(*calls)[-1]


def look(input_count):
    """Calls that show all that's given."""
    return [("at", x) for x in range(1 << input_count)]


def given_after(input_count, *calls):
    """What's given of each set of inputs, behind these calls."""
    shown = ask(*calls, *look(input_count))[len(calls):]
    return [told[0] for told in shown]


def count_inputs(table):
    return len(table).bit_length() - 1


def looked(answer_count, table, *calls):
    """What these calls answer of a table, in one line."""
    return ask(("begin", count_inputs(table), answer_count), ("table", table), *calls)[2:]


def looked_many(answer_count, table, calls):
    """What these calls, that only look, answer of a table, in as many lines as it takes."""
    told = {}
    for place in range(0, len(calls), 50):
        some = calls[place:place + 50]
        for call, answer in zip(some, looked(answer_count, table, *some)):
            told[key_of(call)] = answer
    return told


def key_of(call):
    """A call as a key: its row, if it has one, as a tuple."""
    return tuple(tuple(part) if isinstance(part, list) else part for part in call)
