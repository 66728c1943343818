"""Of what form steps and derivations are, no matter whether they are let by: what has a text, and what is read."""
from witnesslog.checks import MOST_VARIABLES, is_list, is_literal_of, is_number_between, is_pair, is_row_of
from witnesslog.derivations import MOST_INSTRUCTIONS
from witnesslog.orders import MOST_LITERALS, MOST_ORDER_ROWS
from witnesslog.problems import MOST_OF_PROBLEM

MOST_ID = 999999999
MOST_DIGITS = 40

# The words of instructions and of keys, those that stand alone and those with a number behind them.
LONE_INSTRUCTIONS = ("sum", "capped")
NUMBERED_INSTRUCTIONS = ("row", "literal", "times", "divided", "weakened")
LONE_KEYS = ("own", "price", "strict")
NUMBERED_KEYS = ("row", "order", "same", "along")

# How many items a step of a kind has, its word included; one that leaves the core has two more.
PARTS = {"derive": 2, "follow": 2, "refute": 3, "plan": 2, "new": 1, "core": 2, "leave": 2, "witness": 4,
         "dominate": 4, "order": 3}


def is_short(thing):
    """Whether thing is a number of at most 40 digits."""
    return is_number_between(1 - 10 ** 40, thing, 10 ** 40 - 1)


def is_short_row(many, thing):
    """Whether thing is a row whose numbers have at most 40 digits."""
    return is_row_of(many, thing) and is_short(thing[1]) and all([is_short(weight) for weight, _ in thing[0]])


def is_derivation_form(thing):
    if not is_list(thing) or not 1 <= len(thing) <= MOST_INSTRUCTIONS:
        return False
    return all([_is_instruction(told) for told in thing])


def is_key_form(thing):
    if not _is_worded(LONE_KEYS, NUMBERED_KEYS, thing):
        return False
    return len(thing) == 1 or is_id(thing[1])


def is_id(thing):
    return is_number_between(0, thing, MOST_ID)


def is_step_form(thing):
    """Whether thing is a step by its form, no matter whether it is let by."""
    if not isinstance(thing, tuple) or len(thing) == 0 or not isinstance(thing[0], str) or thing[0] not in PARTS:
        return False
    if thing[0] == "leave" and len(thing) == 4:
        return is_id(thing[1]) and _are_images(thing[2]) and _are_papers(thing[3])
    if len(thing) != PARTS[thing[0]]:
        return False
    return len(thing) == 1 or _has_right_parts(thing)


def _has_right_parts(step):
    word, first = step[0], step[1]
    if word == "derive":
        return is_derivation_form(first)
    if word == "plan":
        return _is_filling_form(first)
    if word == "core":
        return _are_ids(first)
    if word == "leave":
        return is_id(first)
    if word == "order":
        return _is_order_form(first) and _are_papers(step[2])
    if not is_short_row(MOST_VARIABLES, first):
        return False
    if word == "refute":
        return is_derivation_form(step[2])
    return word == "follow" or _are_images(step[2]) and _are_papers(step[3])


def _is_worded(lone, numbered, thing):
    """Whether thing is a tuple of one of the words lone, or of one of the words numbered and something more."""
    if not isinstance(thing, tuple):
        return False
    return len(thing) == 1 and thing[0] in lone or len(thing) == 2 and thing[0] in numbered


def _is_instruction(thing):
    if not _is_worded(LONE_INSTRUCTIONS, NUMBERED_INSTRUCTIONS, thing):
        return False
    if len(thing) == 1:
        return True
    word, number = thing
    if word == "row":
        return is_number_between(-MOST_ID, number, MOST_ID)
    if word == "literal":
        return is_literal_of(MOST_VARIABLES, number)
    if word == "weakened":
        return is_number_between(1, number, MOST_VARIABLES)
    return is_short(number) and number >= 1


def _is_filling_form(thing):
    if not isinstance(thing, tuple) or not 1 <= len(thing) <= MOST_OF_PROBLEM:
        return False
    return all([is_number_between(0, item, 1) for item in thing])


def _are_ids(thing):
    if not isinstance(thing, tuple) or not 1 <= len(thing) <= MOST_OF_PROBLEM:
        return False
    return all([is_id(item) for item in thing])


def _are_images(thing):
    if not isinstance(thing, tuple) or not 1 <= len(thing) <= MOST_OF_PROBLEM:
        return False
    return all([is_literal_of(MOST_VARIABLES, image) or image in ("yes", "no") for image in thing])


def _is_order_form(thing):
    if not is_pair(thing) or not isinstance(thing[0], tuple) or not isinstance(thing[1], tuple):
        return False
    literals, rows = thing
    if len(literals) > MOST_LITERALS or len(rows) > MOST_ORDER_ROWS:
        return False
    return (all([is_literal_of(MOST_VARIABLES, literal) for literal in literals])
            and all([is_short_row(MOST_VARIABLES, row) for row in rows]))


def _are_papers(thing):
    if not isinstance(thing, dict):
        return False
    return all([is_key_form(key) and is_derivation_form(thing[key]) for key in thing])
