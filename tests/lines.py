"""Calls by name, and the answers to a line of them without their counts."""

from arrowgraph.desk import answers

LOWEST = -2147483648
HIGHEST = 2147483647
HIGHEST_SET = 4294967295

BEGIN = [0]


def nodes(n):
    return [1, n]


def arrow(i, j):
    return [2, i, j]


def apart(a, b, c):
    return [3, a, b, c]


def roots(a):
    return [4, a]


def round_call(i):
    return [5, i]


def least(i, j):
    return [6, i, j]


def same(row):
    return [7, len(row)] + list(row)


ALWAYS = [8]


def line(*calls):
    return [number for call in calls for number in call]


def told_by_calls(*calls):
    """For each call the list of the numbers that are answered."""
    told = answers(line(*calls))
    found = []
    place = 0
    while place < len(told):
        found.append(told[place + 1:place + 1 + told[place]])
        place += 1 + told[place]
    if place != len(told) or len(found) != len(calls):
        raise AssertionError(f"not one answer for each of the {len(calls)} calls: {told}")
    return found


def ask(*calls):
    found = told_by_calls(*calls)
    if any(len(numbers) != 1 for numbers in found):
        raise AssertionError(f"not one number for each of the calls: {found}")
    return [numbers[0] for numbers in found]


def graph(n, *arrows):
    return [BEGIN, nodes(n)] + [arrow(i, j) for i, j in arrows]


def row(arrows):
    return [node for pair in arrows for node in pair]


def last(laid, call):
    return ask(*laid, call)[-1]


def last_table(laid):
    """The 256 numbers that always answers behind its 0."""
    numbers = told_by_calls(*laid, ALWAYS)[-1]
    if len(numbers) != 257 or numbers[0] != 0:
        raise AssertionError(f"not 0 and 256 numbers: {numbers}")
    return numbers[1:]


def ask_in_lines(laid, calls):
    """One-number answers to however many calls, with as few lines as hold them."""
    room = 60 - len(laid)
    found = []
    for place in range(0, len(calls), room):
        found.extend(ask(*laid, *calls[place:place + room])[len(laid):])
    return found


def nodeset(*members):
    return sum(1 << node for node in set(members))
