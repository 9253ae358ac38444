"""Rules of a book: their steps, and whether they are right on a rod."""

from abacusbooks.hands import behind_act, strokes_of
from abacusbooks.rods import digit_forms, ratio_of, rods_of

ADD = 0
TAKE_AWAY = 1
CARRY = (0, 0, 0)
MOST_STEPS = 10
ACT_CANNOT_BE_DONE = 1
SHOWS_OTHERWISE = 2
OTHER_CARRIES = 3


def rules_of(book):
    """Tell a book's rules: the steps, by op, d and x."""
    rules = {}
    for row in book:
        rules[(row[0], row[1], row[2])] = steps_of(row)
    return rules


def steps_of(row):
    """Cut a row into its steps: stroke, n and k, or a carry."""
    return [(row[start], row[start + 1], row[start + 2]) for start in range(3, len(row), 3)]


def first_wrong_rule(make, hand, book):
    """Tell the first rod, op, d, x for which a rule isn't right, and why; None if all are."""
    strokes = strokes_of(hand)
    rules = rules_of(book)
    for number, rod in enumerate(rods_of(make)):
        wrong = first_wrong_on_rod(rod, strokes, rules)
        if wrong is not None:
            return [number] + wrong
    return None


def first_wrong_on_rod(rod, strokes, rules):
    """Tell the first op, d, x for which a rule isn't right on a rod, and why; None if all are."""
    forms = digit_forms(rod)
    for op in (ADD, TAKE_AWAY):
        for d in range(1, ratio_of(rod)):
            for x in range(ratio_of(rod)):
                steps = rules.get((op, d, x), [])
                why = why_not_right(rod, forms, strokes, op, d, x, steps)
                if why is not None:
                    return [op, d, x, why]
    return None


def why_not_right(rod, forms, strokes, op, d, x, steps):
    """Tell the first reason why a rule isn't right on a rod, None if it is."""
    shown = behind_acts(rod, forms[x], strokes, steps)
    if shown is None:
        return ACT_CANNOT_BE_DONE
    due = due_on(op, d, x)
    if shown != forms[due % ratio_of(rod)]:
        return SHOWS_OTHERWISE
    if steps.count(CARRY) != carries_due(due, ratio_of(rod)):
        return OTHER_CARRIES
    return None


def due_on(op, d, x):
    """Tell what is due where x stands: it's a digit, or one more or less the ratio."""
    return x + d if op == ADD else x - d


def carries_due(due, ratio):
    """Tell how many carries a rule has to have, by whether what is due is a digit."""
    return 0 if 0 <= due < ratio else 1


def behind_acts(rod, pushed, strokes, steps):
    """Tell what is pushed on a rod behind all acts of a rule, None if one of them can't be done."""
    behind = pushed
    for stroke, n, k in steps:
        if (stroke, n, k) == CARRY:
            continue
        if stroke >= len(strokes):
            return None
        behind = behind_act(rod, behind, strokes[stroke], n, k)
        if behind is None:
            return None
    return behind
