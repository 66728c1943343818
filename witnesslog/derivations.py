"""Derivations: instructions that lead from named rows to one that follows."""
from witnesslog.checks import MOST_ID, MOST_VARIABLES, check_many, is_list, is_literal_of, is_number
from witnesslog.checks import is_number_between, is_row_of, is_short, is_worded
from witnesslog.errors import BadDerivation, BadNamed
from witnesslog.rows import normal_row

MOST_INSTRUCTIONS = 400000

# The words of instructions, those that stand alone and those with a number behind them.
LONE_WORDS = ("sum", "capped")
NUMBERED_WORDS = ("row", "literal", "times", "divided", "weakened")

# How many rows of the stack an instruction takes.
TAKEN = {"row": 0, "literal": 0, "sum": 2, "times": 1, "divided": 1, "capped": 1, "weakened": 1}


def derived(many, named, derivation):
    """The row in which derivation ends."""
    check_many(many)
    rows = rows_by_name(many, named)
    row, index = end_of(many, rows, derivation)
    if row is None:
        raise BadDerivation(index)
    return row


def is_derivation(many, named, thing):
    """Whether thing is a derivation from named that has an end."""
    check_many(many)
    rows = rows_by_name(many, named)
    return end_of(many, rows, thing)[0] is not None


def rows_by_name(many, named):
    """A new dict from the names to the rows of named, a dict or a list."""
    if isinstance(named, dict):
        names = list(named)
    elif is_list(named):
        names = list(range(len(named)))
    else:
        raise BadNamed("named is a dict from numbers to rows, or a list of rows")
    for name in names:
        if not is_number(name) or not is_row_of(many, named[name]):
            raise BadNamed("each name is a number, and what has it a row")
    return {name: named[name] for name in names}


def first_free(rows):
    """The first name behind those of rows, a dict."""
    return max(rows, default=-1) + 1


def end_of(many, rows, derivation):
    """The row in which derivation ends, None if there is none, and the index at which that is seen."""
    if not is_list(derivation):
        return (None, 0)
    stack = []
    for index, instruction in enumerate(derivation):
        if index >= MOST_INSTRUCTIONS or not _is_done(many, rows, stack, instruction):
            return (None, index)
    if len(stack) != 1:
        return (None, len(derivation))
    return (stack[0], len(derivation))


def is_derivation_form(thing):
    """Whether thing is a list of instructions by their form, whatever rows there are."""
    if not is_list(thing) or not 1 <= len(thing) <= MOST_INSTRUCTIONS:
        return False
    return all([_is_instruction_form(told) for told in thing])


def summed_steps(parts):
    """Instructions to the sum of the rows of parts, pairs of a number and a name: each row that many times."""
    told = []
    for index, part in enumerate(parts):
        number, name = part
        told.extend([("row", name), ("times", number)])
        if index > 0:
            told.append(("sum",))
    return told


def _is_done(many, rows, stack, instruction):
    """Work instruction off with stack, if that can be done; whether it can."""
    if not _is_instruction(many, rows, instruction):
        return False
    left = len(stack) - TAKEN[instruction[0]]
    if left < 0:
        return False
    row = _row_put(rows, stack, instruction)
    # The other instructions put no greater numbers than those that are on the stack.
    if instruction[0] in ("row", "sum", "times") and not _is_narrow(row):
        return False
    del stack[left:]
    stack.append(row)
    return True


def _is_instruction(many, rows, thing):
    if not isinstance(thing, tuple) or len(thing) == 0:
        return False
    word = thing[0]
    if word in ("sum", "capped"):
        return len(thing) == 1
    if len(thing) != 2 or not is_number(thing[1]):
        return False
    number = thing[1]
    if word == "row":
        return number in rows
    if word == "literal":
        return is_literal_of(many, number)
    if word in ("times", "divided"):
        return number >= 1
    return word == "weakened" and is_number_between(1, number, many)


def _is_instruction_form(thing):
    if not is_worded(LONE_WORDS, NUMBERED_WORDS, thing):
        return False
    if len(thing) == 1:
        return True
    word, number = thing
    if word == "row":
        return is_number_between(-MOST_ID, number, MOST_ID)
    if word == "literal":
        return is_literal_of(MOST_VARIABLES, number)
    if word == "weakened":
        return is_number_between(1, number, MOST_VARIABLES)
    return is_short(number) and number >= 1


def _row_put(rows, stack, instruction):
    """The row that instruction puts on stack, which is left as it is."""
    word = instruction[0]
    if word == "row":
        return rows[instruction[1]]
    if word == "literal":
        return (((1, instruction[1]),), 0)
    if word == "sum":
        return _summed(stack[-2], stack[-1])
    if word == "times":
        return _multiplied(stack[-1], instruction[1])
    if word == "divided":
        return divided_row(stack[-1], instruction[1])
    if word == "capped":
        return capped_row(stack[-1])
    return _weakened(stack[-1], instruction[1])


def _is_narrow(row):
    terms, bound = row
    return bound < 10 ** 40 and all([weight < 10 ** 40 for weight, _ in terms])


def _summed(one, other):
    return normal_row(one[0] + other[0], one[1] + other[1])


def _multiplied(row, number):
    terms, bound = row
    return (tuple([(weight * number, literal) for weight, literal in terms]), bound * number)


def divided_row(row, number):
    terms, bound = row
    return (tuple([(_quotient(weight, number), literal) for weight, literal in terms]), _quotient(bound, number))


def _quotient(one, other):
    # Python's division rounds down, so that of the opposite number rounds up.
    return -(-one // other)


def capped_row(row):
    terms, bound = row
    if bound == 0:
        return ((), 0)
    return (tuple([(min(weight, bound), literal) for weight, literal in terms]), bound)


def _weakened(row, variable):
    terms, bound = row
    for index, pair in enumerate(terms):
        if abs(pair[1]) == variable:
            return (terms[:index] + terms[index + 1:], max(0, bound - pair[0]))
    return row
