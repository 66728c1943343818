"""Guides: wishes for a search, which change its way, but never its answer."""
from witnesslog.checks import check_filling, is_list, is_literal_of, is_number_between, is_pair
from witnesslog.errors import BadGuide
from witnesslog.problems import MOST_OF_PROBLEM, check_problem

MOST_WISHES = 400
MOST_FORGOTTEN = 999


def is_guide(thing):
    """Whether thing is a list of wishes."""
    return is_list(thing) and len(thing) <= MOST_WISHES and all([_is_wish(wish) for wish in thing])


def guide_to(problem, filling):
    """The tuple of the literals that are worth 1 at filling."""
    check_problem(problem)
    check_filling(problem.many, filling)
    return tuple([index + 1 if item == 1 else -(index + 1) for index, item in enumerate(filling)])


def plain_guide(guide):
    """The tuple of the wishes of guide that forget nothing."""
    check_guide(guide)
    return tuple([wish for wish in guide if not is_pair(wish)])


def check_guide(guide):
    if not is_guide(guide):
        raise BadGuide("a guide is a list of at most 400 wishes")


def _is_wish(thing):
    if is_pair(thing):
        return thing[0] == "forget" and is_number_between(1, thing[1], MOST_FORGOTTEN)
    return is_literal_of(MOST_OF_PROBLEM, thing) or thing == "restart"
