"""The document's words written out question by question and row by row, for the tests to hold the answers against."""

import functools
import itertools


def answer(row, q):
    return row // 2 ** q % 2


@functools.lru_cache(maxsize=None)
def row_of_three(x, y, z):
    return sum(2 ** q for q in range(5) if answer(x, q) + answer(y, q) + answer(z, q) >= 2)


def every_rules(m):
    rows = range(2 ** m)
    for many in range(1, 2 ** m + 1):
        for rules in itertools.combinations(rows, many):
            yield list(rules)


def strided_rules(m):
    # Too many rules to go through all: rows picked by steps that reach every row of m questions.
    for many in (3, 4, 5, 7, 10):
        for start in range(2 ** m):
            for step in range(1, 2 ** m, 2):
                yield sorted({(start + step * k * k + k) % 2 ** m for k in range(many)})


def orders(rules):
    rising = sorted(rules)
    if len(rising) <= 4:
        return [list(order) for order in itertools.permutations(rising)]
    half = len(rising) // 2
    return [rising, rising[::-1], rising[half:] + rising[:half], rising[::2] + rising[1::2], rising[1::2] + rising[::2]]


def is_closed(rules):
    return all(row_of_three(x, y, z) in rules for x, y, z in itertools.product(rules, repeat=3))


def threes_outside(rules):
    return [three for three in itertools.combinations(sorted(rules), 3) if row_of_three(*three) not in rules]


def is_there_in_pairs(m, r, rules):
    # A question taken with itself stands for each one answer.
    return all(
        any(answer(row, q) == answer(r, q) and answer(row, p) == answer(r, p) for row in rules)
        for q in range(m)
        for p in range(m)
    )


def least_of(sets):
    least = min(sets, key=len)
    if not all(least <= other for other in sets):
        raise AssertionError("no one of these lies in all the others")
    return least
