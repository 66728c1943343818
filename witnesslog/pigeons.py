"""Pigeons that do not all have a hole of their own, and the short log that shows it."""
from witnesslog.checks import is_number_between
from witnesslog.errors import BadNumber
from witnesslog.problems import Problem

MOST_HOLES = 8


def pigeons(holes):
    """The pair of the problem, with one pigeon more than holes, and a log behind which an impossible row is known."""
    if not is_number_between(1, holes, MOST_HOLES):
        raise BadNumber("the number of holes is from 1 to 8")
    return (_problem(holes), _log(holes))


def _variable(holes, pigeon, hole):
    return (pigeon - 1) * holes + hole


def _pairs(holes):
    """The pairs of pigeons, ascending."""
    return [(one, other) for one in range(1, holes + 2) for other in range(one + 1, holes + 2)]


def _problem(holes):
    rows = []
    for pigeon in range(1, holes + 2):
        rows.append((tuple([(1, _variable(holes, pigeon, hole)) for hole in range(1, holes + 1)]), 1))
    for hole in range(1, holes + 1):
        for pair in _pairs(holes):
            rows.append((tuple([(1, -_variable(holes, pigeon, hole)) for pigeon in pair]), 1))
    return Problem(holes * (holes + 1), rows, ((), 0))


def _log(holes):
    pairs = _pairs(holes)
    first = holes + 2
    steps = []
    for hole in range(1, holes + 1):
        ids = {pair: first + (hole - 1) * len(pairs) + index for index, pair in enumerate(pairs)}
        steps.append(("derive", _at_most_one(holes, ids)))
    # All pigeons together, and in each hole at most one.
    last = holes + 1 + holes * len(pairs)
    told = [("row", last + 1)]
    for name in list(range(1, holes + 2)) + list(range(last + 2, last + holes + 1)):
        told.extend([("row", name), ("sum",)])
    return steps + [("derive", tuple(told))]


def _at_most_one(holes, ids):
    """The derivation of: at most one of all pigeons is in a hole, ids being those of its rows by their pigeons."""
    told = [("row", ids[(1, 2)])]
    for many in range(2, holes + 1):
        # That at most one of many is there, many - 1 times, and the rows of the next pigeon with each of them.
        told.append(("times", many - 1))
        for pigeon in range(1, many + 1):
            told.extend([("row", ids[(pigeon, many + 1)]), ("sum",)])
        told.append(("divided", many))
    return tuple(told)
