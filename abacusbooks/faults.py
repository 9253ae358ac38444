"""What is wrong with what is handed in: a fault is a list of its rule and its place, None if there is none."""

BOOK_RULE = 9
HIGHEST_OP = 1
HIGHEST_DIGIT = 19
MOST_STEPS = 10
HIGHEST_STROKE = 31
MOST_BEADS = 15


def book_fault(book):
    """Tell the first row that can't be, or that tells a rule once more."""
    told = {}
    for place, row in enumerate(book):
        if not row_can_be(row):
            return [BOOK_RULE, place]
        rule = (row[0], row[1], row[2])
        if rule in told:
            return [BOOK_RULE, place]
        told[rule] = True
    return None


def row_can_be(row):
    """Look at a row by itself."""
    return length_can_be(len(row)) and head_can_be(row) and steps_can_be(row)


def length_can_be(length):
    """Op, d and x, then three numbers a step, none left over."""
    return 3 <= length <= 3 + 3 * MOST_STEPS and length % 3 == 0


def head_can_be(row):
    """Look at op, d and x."""
    return row[0] <= HIGHEST_OP and row[1] <= HIGHEST_DIGIT and row[2] <= HIGHEST_DIGIT


def steps_can_be(row):
    """Look at each step of a row that has no numbers left over."""
    for start in range(3, len(row), 3):
        if not step_can_be(row[start], row[start + 1], row[start + 2]):
            return False
    return True


def step_can_be(stroke, n, k):
    """Look at an act or a carry."""
    if n == 0:
        # An act pushes at least one bead, so n is 0 in a carry alone, and a carry is written 0 0 0.
        return stroke == 0 and k == 0
    return stroke <= HIGHEST_STROKE and n <= MOST_BEADS and k <= MOST_BEADS
