"""The calls over a panel: m questions, ok the rows that may stand, v what the judges say; x, y, z and r are rows."""

REFUSED = -22
MOST_QUESTIONS = 5
MOST_JUDGES = 15

# Place q has what question q counts in a row; place m has the first number that is no row of m questions.
POWERS = (1, 2, 4, 8, 16, 32)


def is_number(x):
    # Python counts True and False among its ints, the document does not.
    return isinstance(x, int) and not isinstance(x, bool)


def is_row(m, x):
    return is_number(x) and 0 <= x < POWERS[m]


def questions_allowed(m):
    return is_number(m) and 1 <= m <= MOST_QUESTIONS


def rules_allowed(m, ok):
    # m goes first: the rows are measured by POWERS[m], which is there for an allowed m alone.
    if not questions_allowed(m) or not isinstance(ok, list) or len(ok) == 0:
        return False
    for row in ok:
        if not is_row(m, row) or ok.count(row) > 1:
            return False
    return True


def judges_allowed(ok, v):
    if not isinstance(v, list) or not 1 <= len(v) <= MOST_JUDGES:
        return False
    for row in v:
        # True would be found in ok as 1, so being there is not enough.
        if not is_number(row) or row not in ok:
            return False
    return True


def panel_allowed(m, ok, v):
    return rules_allowed(m, ok) and judges_allowed(ok, v)


def three_allowed(m, x, y, z):
    return questions_allowed(m) and is_row(m, x) and is_row(m, y) and is_row(m, z)


def row_and_rules_allowed(m, r, ok):
    return rules_allowed(m, ok) and is_row(m, r)


def says_yes(row, q):
    return row & POWERS[q] != 0


def count_yes(v, q):
    return len([row for row in v if says_yes(row, q)])


def most_say_yes(v, q):
    # Doubled instead of halved, so that a tie of an even number stays below.
    return 2 * count_yes(v, q) > len(v)


def majorities_row(m, v):
    row = 0
    for q in range(m):
        if most_say_yes(v, q):
            row = row + POWERS[q]
    return row


def row_of_three(x, y, z):
    # Two of three say yes just if some pair does, and where none does two say no: all questions go at once.
    return (x & y) | (x & z) | (y & z)


def first_three_outside(rows):
    # The rows come rising, so the threes do too, and in the order that the document asks for.
    # Threes with a row twice are left out: their row of three is that row.
    for i in range(len(rows)):
        for j in range(i + 1, len(rows)):
            for k in range(j + 1, len(rows)):
                if row_of_three(rows[i], rows[j], rows[k]) not in rows:
                    return [rows[i], rows[j], rows[k]]
    return []


def hull_rows(ok):
    # A row that three of the hull's rows call for is in it whatever else is, so taking in
    # one after another until none is called for gives the least set.
    rows = sorted(ok)
    three = first_three_outside(rows)
    while len(three) > 0:
        rows = sorted(rows + [row_of_three(three[0], three[1], three[2])])
        three = first_three_outside(rows)
    return rows


def same_answer(x, y, q):
    return says_yes(x, q) == says_yes(y, q)


def some_row_has_both(ok, r, q, p):
    for row in ok:
        if same_answer(row, r, q) and same_answer(row, r, p):
            return True
    return False


def is_there_in_pairs(m, r, ok):
    for q in range(m):
        # A question goes with itself, too: of one question there is but the one answer.
        for p in range(q, m):
            if not some_row_has_both(ok, r, q, p):
                return False
    return True


def who_says(v, row):
    return [judge for judge in range(len(v)) if v[judge] == row]


def major(m, ok, v):
    if not panel_allowed(m, ok, v):
        return [REFUSED]
    row = majorities_row(m, v)
    return [row, 1 if row in ok else 0]


def counts(m, ok, v):
    if not panel_allowed(m, ok, v):
        return [REFUSED]
    return [m] + [count_yes(v, q) for q in range(m)]


def agree(m, ok, v):
    if not panel_allowed(m, ok, v):
        return [REFUSED]
    who = who_says(v, majorities_row(m, v))
    return [len(who)] + who


def median(m, x, y, z):
    if not three_allowed(m, x, y, z):
        return [REFUSED]
    return [row_of_three(x, y, z)]


def closed(m, ok):
    if not rules_allowed(m, ok):
        return [REFUSED]
    three = first_three_outside(sorted(ok))
    return [1] if len(three) == 0 else [0] + three


def hull(m, ok):
    if not rules_allowed(m, ok):
        return [REFUSED]
    rows = hull_rows(ok)
    return [len(rows)] + rows


def pairs(m, r, ok):
    if not row_and_rules_allowed(m, r, ok):
        return [REFUSED]
    return [1 if is_there_in_pairs(m, r, ok) else 0]
