"""Calls by name, and the answers to a line of them without their counts."""

from arrowgraph.desk import answers

LOWEST = -2147483648
HIGHEST = 2147483647
HIGHEST_SET = 4294967295

BEGIN = [0]


def nodes(n):
    return [1, n]


def arrow(i, j):
    return [2, i, j]


def apart(a, b, c):
    return [3, a, b, c]


def roots(a):
    return [4, a]


def round_call(i):
    return [5, i]


def least(i, j):
    return [6, i, j]


def same(row):
    return [7, len(row)] + list(row)


ALWAYS = [8]


def line(*calls):
    return [number for call in calls for number in call]


def ask(*calls):
    told = answers(line(*calls))
    if told[0::2] != [1] * len(calls):
        raise AssertionError(f"not one number for each of the calls: {told}")
    return told[1::2]


def graph(n, *arrows):
    return [BEGIN, nodes(n)] + [arrow(i, j) for i, j in arrows]


def last(laid, call):
    return ask(*laid, call)[-1]


def nodeset(*members):
    return sum(1 << node for node in set(members))
