"""New variables that count how many literals of a lot are worth 1."""
from witnesslog.checks import check_few, is_number
from witnesslog.errors import BadId
from witnesslog.judge import check_judge
from witnesslog.problems import MOST_OF_PROBLEM
from witnesslog.rows import opposite_terms
from witnesslog.witnesses import unchanged_but_for


def counting(judge, number):
    """The steps by which new variables come for the literals of the known row with the id number."""
    check_judge(judge)
    known = judge.known()
    if not is_number(number) or number not in known or not _is_lot_row(known[number]):
        raise BadId("no id of a known row with weights and bound 1")
    lot = known[number][0]
    size = len(lot)
    check_few(judge.many + size - 1, MOST_OF_PROBLEM)
    steps = []
    for count in range(2, size + 1):
        new = judge.many + count - 1
        steps.append(("new",))
        # If new, at least count of them; if not new, at most count - 1.
        if_new = (lot + ((count, -new),), count)
        if_not = (opposite_terms(lot) + ((size - count + 1, new),), size - count + 1)
        steps.append(("witness", if_new, unchanged_but_for(new, new, "no"), {}))
        steps.append(("witness", if_not, unchanged_but_for(new, new, "yes"), {}))
    return steps + _sums(lot, number, judge.next_id)


def _is_lot_row(row):
    return len(row[0]) > 0 and row[1] == 1 and all([weight == 1 for weight, _ in row[0]])


def _sums(lot, number, first):
    """The two last steps, first being the id of the first row of the others.

    The one for count + 1 comes of the one for count, count times, and one more row, divided by count + 1.
    """
    size = len(lot)
    at_least = [("row", number)]
    at_most = [("literal", -lot[0][1])]
    if size > 1:
        at_most = [("row", first + 2 * size - 3)]
    for count in range(2, size + 1):
        at_least.extend([("times", count - 1), ("row", first + 2 * count - 4), ("sum",), ("divided", count)])
    for count in range(2, size):
        at_most.extend([("times", count - 1), ("row", first + 2 * (size - count) - 1), ("sum",), ("divided", count)])
    return [("derive", tuple(at_least)), ("derive", tuple(at_most))]
