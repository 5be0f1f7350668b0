"""Short ways for the tests to hand in calls and to take the answers apart."""

from threesticks.heap import answers

ABOUT, SHOWS, ONE, PLACE, KINDS, LONGEST, AREA, GREATEST = range(8)
LEAST, HEAP, PUT, THREES, MOST, SPARE, WITHOUT = range(8, 15)

GREATEST_NUMBER = 4294967295


def heap(lengths):
    """The call that makes these the heap."""
    return (HEAP, len(lengths), *lengths)


def one_list(calls):
    return [number for call in calls for number in call]


def ask(*calls):
    """The answers of these calls, a list for each; a call is a tuple of its number and its numbers."""
    return taken_apart(answers(one_list(calls)), calls)


def taken_apart(told, calls):
    parts = []
    at = 0
    while at < len(told):
        end = at + 1 + told[at]
        parts.append(told[at + 1:end])
        at = end
    assert at == len(told) and len(parts) == len(calls), (calls, told)
    return parts


def ask_one(*call):
    return ask(call)[0]


def ask_many(calls):
    """As ask, on as many lines as it needs: a line has at most 40 calls."""
    parts = []
    for start in range(0, len(calls), 40):
        parts.extend(ask(*calls[start:start + 40]))
    return parts
