"""Papers: derivations that may name the rows in which earlier ones end."""
from witnesslog.checks import check_few, check_many, is_row_of
from witnesslog.derivations import MOST_INSTRUCTIONS, end_of, first_free, rows_by_name
from witnesslog.errors import BadGoal, BadPaper

MOST_DERIVATIONS = 5000


def results(many, named, paper):
    """The list of the rows in which the derivations of paper end."""
    check_many(many)
    return checked_ends(many, rows_by_name(many, named), paper)


def is_paper(many, named, goal, thing):
    """Whether thing is a paper from named whose last derivation ends in goal."""
    check_many(many)
    rows = rows_by_name(many, named)
    check_goal(many, goal)
    ends, _ = _ends_of(many, rows, thing)
    return ends is not None and ends[-1] == goal


def flat(many, named, paper):
    """The last derivation of paper without names of results: what leads to these stands for them."""
    check_many(many)
    rows = rows_by_name(many, named)
    checked_ends(many, rows, paper)
    free = first_free(rows)
    check_few(_flat_length(free, paper), MOST_INSTRUCTIONS)
    return _flattened(free, paper)


def check_goal(many, goal):
    if not is_row_of(many, goal):
        raise BadGoal("a goal is a row")


def checked_ends(many, rows, paper):
    ends, index = _ends_of(many, rows, paper)
    if ends is None:
        raise BadPaper(index)
    return ends


def names_result(free, instruction):
    """Whether instruction names the result of a derivation, free being the first free name."""
    return instruction[0] == "row" and instruction[1] >= free


def _ends_of(many, rows, paper):
    """The rows in which the derivations end; or None, and the index of the first one without an end."""
    if not isinstance(paper, tuple) or not 1 <= len(paper) <= MOST_DERIVATIONS:
        return (None, 0)
    known = {name: rows[name] for name in rows}
    free = first_free(rows)
    ends = []
    for index, derivation in enumerate(paper):
        row, _ = end_of(many, known, derivation)
        if row is None:
            return (None, index)
        known[free + index] = row
        ends.append(row)
    return (ends, None)


def _flat_length(free, paper):
    """How many instructions flat would tell, or some number above the most."""
    lengths = []
    for derivation in paper:
        length = 0
        for instruction in derivation:
            if names_result(free, instruction):
                length += lengths[instruction[1] - free]
            else:
                length += 1
        # Lengths may double with each derivation, and need not be known beyond the most.
        lengths.append(min(length, MOST_INSTRUCTIONS + 1))
    return lengths[-1]


def _flattened(free, paper):
    told = []
    # Where to go on: a derivation's place in paper, and the index of its next instruction.
    ahead = [(len(paper) - 1, 0)]
    while ahead:
        place, index = ahead.pop()
        derivation = paper[place]
        while index < len(derivation) and not names_result(free, derivation[index]):
            told.append(derivation[index])
            index += 1
        if index < len(derivation):
            ahead.append((place, index + 1))
            ahead.append((derivation[index][1] - free, 0))
    return told
