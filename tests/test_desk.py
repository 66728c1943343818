from tests import helper
from tests.helper import Case
from tests.test_judge import price_at
from tests.test_least import BAD_WAYS, some_ways
from tests.test_rows import BAD_ROWS
from tests.test_seeking import some_guide
from witnesslog.desk import Desk
from witnesslog.errors import (BadGuide, BadLiteral, BadMany, BadPrice, BadRow, BadWays, IsAssumed, NoLevel, TooMany,
                               WitnessError)
from witnesslog.least import least
from witnesslog.problems import Problem

PRICE = (((2, 1), (3, -2)), 1)
ROW = (((1, 1), (1, 2)), 1)


class Told:
    """A desk, in plain words."""

    def __init__(self, many, price):
        self.many, self.price = many, price
        self.levels, self.done, self.moments = [[]], [], []

    def came(self, word):
        return [thing for level in self.levels for kind, thing in level if kind == word]

    def problem(self):
        rows = self.came("row") + [(((1, l),), 1) for l in self.came("literal")]
        return Problem(self.many, rows, self.price)

    def plans(self):
        problem = self.problem()
        return helper.where(self.many, problem.rows)

    def bounds(self):
        rows, literals = self.came("row"), self.came("literal")
        fit = [told for there, given, told in self.moments
               if all(row in rows for row in there) and all(l in literals for l in given)]
        low = "none" if ("none",) in fit else max([told[1] for told in fit], default=None)
        plans = self.plans()
        best = min([told[1] for _, _, told in self.moments if len(told) == 3 and told[2] in plans], default=None)
        return (low, best)

    def copy(self):
        other = Told(self.many, self.price)
        other.levels = [list(level) for level in self.levels]
        other.done, other.moments = list(self.done), list(self.moments)
        return other


class DeskTest(Case):
    def shown(self, desk):
        problem = desk.problem()
        return repr((desk.level(), desk.rows(), desk.assumed(), desk.deeds(), desk.bounds(), problem.many, problem.rows,
                     problem.price))

    def check(self, desk, told):
        self.same(desk.level(), len(told.levels) - 1)
        self.same(desk.rows(), told.came("row"))
        self.same(desk.assumed(), tuple(told.came("literal")))
        self.same(desk.deeds(), told.done)
        self.assertEqual(desk.problem(), told.problem())
        self.same(desk.bounds(), told.bounds())
        low, best = desk.bounds()
        prices = [price_at(told.problem(), at) for at in told.plans()]
        if low == "none":
            self.same(prices, [])
        elif low is not None:
            self.assertTrue(all(low <= price for price in prices))
        if best is not None:
            self.assertIn(best, prices)
        if low is not None and low == best:
            self.same(low, min(prices))

    def refuses_deed(self, desk, error, attributes, deed, *passed):
        before = self.shown(desk)
        with self.assertRaises(WitnessError) as caught:
            getattr(desk, deed)(*passed)
        self.assertIs(type(caught.exception), error)
        self.same(vars(caught.exception), attributes)
        self.same(self.shown(desk), before)

    def test_by_hand(self):
        desk = Desk(many=2, price=PRICE)
        self.same((desk.level(), desk.rows(), desk.assumed(), desk.deeds(), desk.bounds()),
                  (0, [], (), [], (None, None)))
        self.same(desk.put(row=ROW), None)
        self.same(desk.ask(ways=["above"], guide=[1]), ("least", 1, (0, 1)))
        self.same(desk.bounds(), (1, 1))
        desk.enter()
        desk.assume(literal=-2)
        self.same((desk.level(), desk.bounds(), desk.assumed()), (1, (1, None), (-2,)))
        self.refuses_deed(desk, IsAssumed, {"literal": -2}, "assume", 2)
        self.refuses_deed(desk, IsAssumed, {"literal": -2}, "assume", -2)
        self.same(desk.ask([], []), ("least", 6, (1, 0)))
        desk.assume(-1)
        self.same((desk.ask(("below",), ()), desk.core(guide=[])), (("none",), (-2, -1)))
        self.same(desk.bounds(), ("none", None))
        desk.leave()
        self.same((desk.level(), desk.bounds(), desk.rows(), desk.core([1])), (0, (1, 1), [ROW], None))
        self.same(desk.deeds(), [("put", ROW), ("ask", ("above",), (1,)), ("enter",), ("assume", -2), ("ask", (), ()),
                                 ("assume", -1), ("ask", ("below",), ()), ("leave",)])
        self.refuses_deed(desk, NoLevel, {}, "leave")

    def test_drawn_deeds(self):
        counts = {}
        for _ in range(60):
            many = self.rng.randint(1, 4)
            price = (helper.some_row(self.rng, many, 3)[0], self.rng.randint(-3, 3))
            pairs = [(Desk(many, price), Told(many, price))]
            for _ in range(self.rng.randint(5, 30)):
                k = self.rng.randrange(len(pairs))
                kind = self.deed(pairs[k][0], pairs[k][1], many)
                if self.rng.random() < 0.1 and len(pairs) < 3:
                    kind = "copy"
                    pairs.append((pairs[k][0].copy(), pairs[k][1].copy()))
                counts[kind] = counts.get(kind, 0) + 1
                for desk, told in pairs:
                    self.check(desk, told)
                for desk, told in pairs:
                    for other, more in pairs:
                        self.assertEqual(desk == other, told.done == more.done)
        self.assertGreater(min(counts.values()), 15, counts)
        self.same(sorted(counts), ["ask least", "ask none", "assume", "copy", "core", "enter", "is assumed", "leave",
                                   "no core", "no level", "put"])

    def deed(self, desk, told, many):
        word = self.rng.choice(["put", "put", "assume", "assume", "enter", "enter", "leave", "ask", "ask", "core"])
        if word == "put":
            row = self.rng.choice(told.came("row") + [helper.some_row(self.rng, many, 2, 2) for _ in range(3)])
            self.same(desk.put(row), None)
            told.levels[-1].append(("row", row))
            told.done.append(("put", row))
        elif word == "assume":
            l = self.rng.randint(1, many) * self.rng.choice((1, -1))
            there = [k for k in told.came("literal") if abs(k) == abs(l)]
            if there:
                self.refuses_deed(desk, IsAssumed, {"literal": there[0]}, "assume", l)
                return "is assumed"
            self.same(desk.assume(l), None)
            told.levels[-1].append(("literal", l))
            told.done.append(("assume", l))
        elif word == "enter":
            self.same(desk.enter(), None)
            told.levels.append([])
            told.done.append(("enter",))
        elif word == "leave":
            if len(told.levels) == 1:
                self.refuses_deed(desk, NoLevel, {}, "leave")
                return "no level"
            self.same(desk.leave(), None)
            told.levels.pop()
            told.done.append(("leave",))
        else:
            return getattr(self, "deed_" + word)(desk, told, many)
        return word

    def deed_ask(self, desk, told, many):
        ways, guide = some_ways(self.rng), some_guide(self.rng, many, 8)
        found = desk.ask(ways, guide)
        problem, plans = told.problem(), told.plans()
        self.same(found, least(problem, ways, guide)[:-1])
        self.same(found[0], "least" if plans else "none")
        if plans:
            self.same((len(found), found[1], found[2] in plans), (3, min(price_at(problem, at) for at in plans), True))
            self.same(price_at(problem, found[2]), found[1])
        told.moments.append((told.came("row"), told.came("literal"), found))
        told.done.append(("ask", tuple(ways), tuple(guide)))
        return "ask " + found[0]

    def deed_core(self, desk, told, many):
        guide = some_guide(self.rng, many, 8)
        before = self.shown(desk)
        found = desk.core(guide)
        self.same(self.shown(desk), before)
        if told.plans():
            self.same(found, None)
            return "no core"
        rows, assumed = told.came("row"), told.came("literal")
        self.assertIs(type(found), tuple)
        self.assertTrue(set(found) <= set(assumed) and len(set(found)) == len(found))
        plans = helper.where(many, rows)
        self.assertFalse(any(all(helper.worth(l, at) == 1 for l in found) for at in plans))
        for l in found:
            self.assertTrue(any(all(helper.worth(k, at) == 1 for k in found if k != l) for at in plans))
        return "core"

    def test_errors_at_the_beginning(self):
        for many in (None, 0, 201, True, "1", -1, [1]):
            self.refuses(BadMany, Desk, many, None)
        for price in (None, 0, [], ((), None), [(), 0], ((), True), (((1, 3),), 0), (((0, 1),), 0), ([(1, 1)], 0),
                      ((),)):
            self.refuses(BadPrice, Desk, 2, price)
        self.same(Desk(200, ((), 0)).rows(), [])

    def test_errors_of_deeds(self):
        desk = Desk(2, (((10 ** 9, 1),), 0))
        for row in BAD_ROWS:
            self.refuses_deed(desk, BadRow, {}, "put", row)
        for l in (None, 0, 3, -3, True, "1", [1], (1,), {}):
            self.refuses_deed(desk, BadLiteral, {}, "assume", l)
        for ways in BAD_WAYS:
            self.refuses_deed(desk, BadWays, {}, "ask", ways, None)
        for guide in (None, {}, [0], "restart", [True], [201]):
            self.refuses_deed(desk, BadGuide, {}, "ask", [], guide)
            self.refuses_deed(desk, BadGuide, {}, "core", guide)
        self.refuses_deed(desk, TooMany, {"most": 999999999}, "ask", [], [])
        self.same(desk.core([]), None)

    def test_too_many(self):
        desk = Desk(200, (((1, 1),), 0))
        for k in range(60):
            desk.enter()
        self.refuses_deed(desk, TooMany, {"most": 60}, "enter")
        self.same(desk.level(), 60)
        for k in range(200):
            desk.put((((1, 1), (1, 1 + k)), 1) if k else ROW)
        self.refuses_deed(desk, BadRow, {}, "put", None)
        self.refuses_deed(desk, TooMany, {"most": 200}, "put", ROW)
        for v in range(1, 201):
            desk.assume(-v if v % 2 else v)
        self.same((len(desk.problem().rows), len(desk.rows()), len(desk.assumed())), (400, 200, 200))
        self.same(desk.ask([], [])[0], "none")
        self.same(len(desk.core([])), 2)
        desk.leave()
        self.same((desk.level(), desk.rows(), desk.assumed(), desk.bounds()), (59, [], (), (None, None)))
        for _ in range(59):
            desk.leave()
        for _ in range(200):
            desk.put(ROW)
        self.refuses_deed(desk, TooMany, {"most": 200}, "put", ROW)

    def test_rows_that_come_again(self):
        desk = Desk(2, (((1, 1), (1, 2)), 0))
        desk.enter()
        desk.put(ROW)
        desk.put(ROW)
        word, price, at = desk.ask([], [])
        self.same((word, price), ("least", 1))
        desk.leave()
        self.same(desk.bounds(), (None, 1))
        desk.assume(at.index(1) + 1)
        self.same(desk.bounds(), (None, 1))
        desk.put((((1, 1), (1, 2)), 1))
        self.same(desk.bounds(), (1, 1))
        desk.assume(at.index(0) + 1)
        self.same(desk.bounds(), (1, None))

    def test_copies_and_equality(self):
        desk = Desk(2, PRICE)
        desk.put(ROW)
        other = desk.copy()
        self.assertTrue(desk == other and not desk != other)
        other.enter()
        self.same((desk == other, desk.level(), other.level()), (False, 0, 1))
        desk.enter()
        self.same(desk == other, True)
        other.ask([], [])
        desk.ask((), ())
        self.same(desk == other, True)
        desk.ask(["below"], [])
        self.same(desk == other, False)
        for thing in (None, 0, "desk", [], PRICE, Problem(2, [], PRICE), Desk(2, ((), 0)), Desk(3, PRICE)):
            self.same(Desk(2, PRICE) == thing, False)
        self.same(Desk(2, PRICE) == Desk(2, PRICE), True)

    def test_what_is_told_is_new(self):
        desk = Desk(2, PRICE)
        desk.put(ROW)
        ways, guide = ["above"], [1]
        desk.ask(ways, guide)
        before = self.shown(desk)
        ways.clear()
        guide.append(2)
        desk.rows().clear()
        desk.deeds().clear()
        self.same(self.shown(desk), before)
