from tests import helper
from tests.helper import Case
from tests.test_judge import HAND
from tests.test_likenesses import NO_PROBLEMS
from witnesslog.errors import BadFilling, BadGuide, BadProblem
from witnesslog.guides import guide_to, is_guide, plain_guide

NO_GUIDES = (None, {}, 1, "restart", "", [0], [True], [False], [201], [-201], [None], ["Restart"], ["forget"], [""],
             [("forget", 0)], [("forget", 1000)], [("forget", True)], [("forget",)], [("forget", 1, 1)],
             [["forget", 1]],
             [("restart", 1)], [("forget", "1")], [()], [(1, 2)], [1] * 401, ("forget", 3), [[1]], {1: 1}, {})


def wish(thing):
    if type(thing) is tuple:
        return (len(thing) == 2 and type(thing[0]) is str and thing[0] == "forget" and helper.number(thing[1])
                and 1 <= thing[1] <= 999)
    return type(thing) is str and thing == "restart" or helper.literal(200, thing)


def guide(thing):
    return type(thing) in (list, tuple) and len(thing) <= 400 and all(wish(item) for item in thing)


class GuidesTest(Case):
    def test_is_guide(self):
        right = [1, -200, "restart", ("forget", 1), ("forget", 999), 200]
        for thing in ([], (), right, tuple(right), [1] * 400, ["restart"] * 400):
            self.same(is_guide(thing), True)
        for thing in NO_GUIDES:
            self.same(is_guide(thing=thing), False)
        self.judges(is_guide, guide, helper.odd_values() + helper.variants(right))

    def test_guide_to(self):
        self.same(guide_to(HAND, (0, 1)), (-1, 2))
        self.same(guide_to(problem=HAND, filling=(1, 0)), (1, -2))
        for thing in NO_PROBLEMS:
            self.refuses(BadProblem, guide_to, thing, None)
        for at in (None, (0,), [0, 0], (0, True), (0, 2), "00", (0, 0, 0)):
            self.refuses(BadFilling, guide_to, HAND, at)

    def test_plain_guide(self):
        self.same(plain_guide([1, ("forget", 2), "restart", -3, ("forget", 9)]), (1, "restart", -3))
        self.same(plain_guide(guide=()), ())
        for thing in NO_GUIDES:
            self.refuses(BadGuide, plain_guide, thing)
