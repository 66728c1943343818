from tests import helper
from tests.helper import Case
from tests.test_going_back import covers
from tests.test_judge import HAND, ORDER, kept, some_problem
from tests.test_meaning import EMPTY, NO_JUDGES, walked
from witnesslog.errors import BadId, BadJudge, BadLiteral, BadRow, BadVariable, NotEliminated, NotEqual, TooMany
from witnesslog.judge import Judge, judged
from witnesslog.orders import lexicographic, papers_by_sums
from witnesslog.problems import Problem
from witnesslog.redundance import (blocked_literals, covered_steps, defined_steps, eliminated_steps, exchanged_steps,
                                   pure_literals, pure_steps)


def but_for(many, l, image):
    found = list(range(1, many + 1))
    found[abs(l) - 1] = image if l > 0 else {"yes": "no", "no": "yes"}[image]
    return tuple(found)


def stand(rows):
    return {l for row in rows for _, l in row[0]}


def some_judge(rng, most=4):
    """A judge behind drawn steps, sometimes with a best price, an order and derived rows."""
    return walked(rng, rng.choice((0, 3, 12)), some_problem(rng, most))


def clause_problem(rng, many, count):
    """A problem whose rows are mostly clauses, the price of few variables."""
    rows = []
    for _ in range(count):
        literals = sorted(helper.some_literals(rng, many, rng.randint(1, min(3, many))), key=abs)
        rows.append((tuple((1, l) for l in literals), 1))
    if rng.random() < 0.3:
        rows.append(helper.some_row(rng, many, 3))
    return Problem(many, rows, (helper.some_row(rng, many, 3, 2)[0], rng.randint(-2, 2)))


class LetByCase(Case):
    def let_by(self, judge, steps):
        """The judge behind the steps; the one passed is not changed."""
        self.assertIs(type(steps), list)
        other = judge.copy()
        for step in steps:
            other.step(step)
            if other.many <= 6:
                self.assertTrue(kept(other))
        return other


class PureTest(LetByCase):
    def told(self, judge, l):
        rows = list(judge.core().values()) + list(judge.derived().values())
        return -l not in stand(rows) and l not in [k for _, k in judge.problem.price[0]] and not {l, -l} & set(
            judge.order()[0])

    def test_by_hand(self):
        judge = Judge(Problem(3, [(((1, 1), (1, -2)), 1)], (((1, 2), (1, 3)), 0)))
        self.same(pure_literals(judge), [-3, -2, 1])
        self.same(pure_steps(judge, -2), [("witness", (((1, -2),), 1), (1, "no", 3), {})])
        self.same(pure_steps(judge=judge, literal=1), [("witness", (((1, 1),), 1), ("yes", 2, 3), {})])
        judge.step(("derive", [("literal", -1)]))
        self.same(pure_literals(judge=judge), [-3, -2])
        judge.step(("leave", 2))
        judge.step(("order", ((-2,), ()), {}))
        self.same(pure_literals(judge), [-3, 1])
        self.same(pure_literals(Judge(Problem(2, [], EMPTY))), [-2, -1, 1, 2])

    def test_by_chance(self):
        done = 0
        for _ in range(300):
            judge = some_judge(self.rng)
            wanted = [l for l in range(-judge.many, judge.many + 1) if l and self.told(judge, l)]
            before = judge.copy()
            self.same(pure_literals(judge), wanted)
            for l in range(-judge.many - 1, judge.many + 2):
                if l not in wanted:
                    self.refuses(BadLiteral, pure_steps, judge, l)
                else:
                    found = pure_steps(judge, l)
                    self.same(found, [("witness", (((1, l),), 1), but_for(judge.many, l, "yes"), {})])
                    self.let_by(judge, found)
                    done += 1
            self.assertEqual(judge, before)
        self.assertGreater(done, 100)

    def test_errors(self):
        for thing in NO_JUDGES:
            self.refuses(BadJudge, pure_literals, thing)
            self.refuses(BadJudge, pure_steps, thing, None)
        for l in (None, 0, True, "1", [1], 2, -3, 3, -1, 1):
            self.refuses(BadLiteral, pure_steps, Judge(Problem(2, [(((1, 1), (1, -2)), 1)], (((1, 1),), 0))), l)


class CoveredTest(LetByCase):
    def test_by_hand(self):
        rows = [(((1, 1), (1, 2)), 1), (((1, 1),), 1), (((1, 1), (1, 2)), 1), (((2, 1),), 1)]
        judge = Judge(Problem(2, rows, EMPTY))
        self.same(covered_steps(judge), [("leave", 4, (1, 2), {}), ("leave", 3, (1, 2), {}), ("leave", 1, (1, 2), {})])
        judge.step(("derive", [("row", 1)]))
        judge.step(("derive", [("row", 1), ("row", 2), ("sum",)]))
        judge.step(("derive", [("row", 6)]))
        self.same(covered_steps(judge=judge), [("leave", 7), ("leave", 5), ("leave", 4, (1, 2), {}),
                                               ("leave", 3, (1, 2), {}), ("leave", 1, (1, 2), {})])

    def test_core_rows_are_covered_by_core_rows(self):
        judge = Judge(Problem(2, [(((1, 1), (1, 2)), 1)], EMPTY))
        judge.step(("derive", [("row", 1)]))
        self.same(covered_steps(judge), [("leave", 2)])
        judge = judged(Problem(1, [], (((1, 1),), 0)), [("plan", (1,)), ("derive", [("row", 0)])])
        self.same(covered_steps(judge), [])
        judge.step(("derive", [("literal", 1), ("capped",)]))
        judge.step(("derive", [("literal", 1), ("capped",)]))
        # ((), 0) is covered by the row 1.
        self.same(covered_steps(judge), [("leave", 3), ("leave", 2)])

    def test_by_chance(self):
        done = 0
        for _ in range(300):
            judge = some_judge(self.rng)
            core, derived = judge.core(), judge.derived()
            wanted = []
            for k in sorted(list(core) + list(derived), reverse=True):
                others = {**core, **(derived if k in derived else {})}
                row = others.pop(k)
                if any(covers(one, row) for one in others.values()):
                    wanted.append(("leave", k) if k in derived else ("leave", k, tuple(range(1, judge.many + 1)), {}))
                    (derived if k in derived else core).pop(k)
            found = covered_steps(judge)
            self.same(found, wanted)
            self.same(covered_steps(self.let_by(judge, found)), [])
            done += len(found)
        self.assertGreater(done, 100)

    def test_errors(self):
        for thing in NO_JUDGES:
            self.refuses(BadJudge, covered_steps, thing)


class BlockedTest(LetByCase):
    def test_by_hand(self):
        rows = [(((1, 1), (1, 2)), 1), (((1, -1), (1, -2), (1, 3)), 1), (((1, -2),), 1)]
        judge = Judge(Problem(3, rows, EMPTY))
        self.same(blocked_literals(judge, 1), [1])
        self.same(blocked_literals(judge=judge, row_id=2), [-1, -2, 3])
        self.same(blocked_literals(judge, 3), [])
        self.same(blocked_literals(Judge(Problem(3, rows, (((1, 1),), 0))), 1), [])
        self.same(blocked_literals(Judge(Problem(3, rows, (((1, -1),), 0))), 1), [1])
        self.same(blocked_literals(judged(Problem(3, rows, EMPTY), [("order", ((1,), ()), {})]), 1), [1])

    def test_by_chance(self):
        done, facts = 0, 0
        for _ in range(300):
            judge = some_judge(self.rng)
            for k, row in judge.core().items():
                found = blocked_literals(judge, k)
                wanted = []
                for _, l in row[0]:
                    other = judge.copy()
                    if other.reads(("leave", k, but_for(judge.many, l, "yes"), {})):
                        wanted.append(l)
                    facts += self.fact(judge, k, row, l)
                    self.assertTrue(not self.fact(judge, k, row, l) or l in found)
                self.same(found, wanted)
                done += len(found)
        self.assertGreater(min(done, facts), 50)

    def fact(self, judge, k, row, l):
        if any(w < row[1] for w, _ in row[0]) or l in [one for _, one in judge.problem.price[0]]:
            return False
        if {l, -l} & set(judge.order()[0]):
            return False
        opposites = [-one for _, one in row[0] if one != l]
        return all(sum(w for w, one in other[0] if one in opposites) >= other[1]
                   for j, other in judge.core().items() if j != k and -l in [one for _, one in other[0]])

    def test_errors(self):
        judge = judged(HAND, [("derive", [("row", 1)])])
        for thing in NO_JUDGES:
            self.refuses(BadJudge, blocked_literals, thing, None)
        for k in (None, 0, 2, 3, -1, True, "1", (1,), [1], {}):
            self.refuses(BadId, blocked_literals, judge, k)


class EliminatedTest(LetByCase):
    def test_by_hand(self):
        rows = [(((1, 1), (1, 2)), 1), (((1, -1), (1, 3)), 1), (((1, -1), (1, -2)), 1), (((1, 1), (1, -3)), 1)]
        judge = Judge(Problem(3, rows, EMPTY))
        self.same(eliminated_steps(judge=judge, variable=1), [
            ("follow", (((1, 2), (1, 3)), 1)), ("follow", (((1, -2), (1, -3)), 1)), ("core", (5, 6)),
            ("leave", 1, ("yes", 2, 3), {}), ("leave", 4, ("yes", 2, 3), {}),
            ("leave", 2, ("no", 2, 3), {}), ("leave", 3, ("no", 2, 3), {})])
        # No pair is left, a row is covered by a core row, and one by a row that came.
        self.same(eliminated_steps(Judge(Problem(2, [(((1, 2),), 1)], EMPTY)), 1), [])
        self.same(eliminated_steps(Judge(Problem(2, [(((1, 2),), 1)], EMPTY)), 2), [("leave", 1, (1, "yes"), {})])
        covered = [(((1, 1), (1, 2)), 1), (((1, -1), (1, 3)), 1), (((2, 2),), 1)]
        self.same(eliminated_steps(Judge(Problem(3, covered, EMPTY)), 1)[0][0], "follow")
        covered[2] = (((1, 2),), 1)
        self.same(eliminated_steps(Judge(Problem(3, covered, EMPTY)), 1),
                  [("leave", 1, ("yes", 2, 3), {}), ("leave", 2, ("no", 2, 3), {})])
        again = [(((1, 1), (1, 2)), 1), (((1, 1), (1, 2), (1, 3)), 1), (((1, -1),), 1)]
        self.same(eliminated_steps(Judge(Problem(3, again, EMPTY)), 1)[:3], [
            ("follow", (((1, 2),), 1)), ("core", (4,)), ("leave", 1, ("yes", 2, 3), {})])
        none = [(((1, 1),), 1), (((1, -1),), 1)]
        self.same(eliminated_steps(Judge(Problem(1, none, EMPTY)), 1), [
            ("follow", ((), 1)), ("core", (3,)), ("leave", 1, ("yes",), {}), ("leave", 2, ("no",), {})])

    def rows(self, judge, variable):
        core = judge.core()
        ones = [k for k in core if variable in stand([core[k]])]
        others = [k for k in core if -variable in stand([core[k]])]
        came = []
        for p in ones:
            for n in others:
                literals = sorted((stand([core[p]]) | stand([core[n]])) - {variable, -variable}, key=abs)
                row = (tuple((1, l) for l in literals), 1)
                if any(-l in literals for l in literals):
                    continue
                if not any(covers(one, row) for one in list(core.values()) + came):
                    came.append(row)
        return ones, others, came

    def test_by_chance(self):
        done, came = 0, 0
        for k in range(400):
            problem = clause_problem(self.rng, self.rng.randint(1, 5), self.rng.randint(0, 8))
            judge = walked(self.rng, self.rng.choice((0, 4)), problem)
            if k % 5 == 0:
                thing = lexicographic(problem.many, [1])
                judge = judged(problem, [("order", thing, papers_by_sums(problem.many, thing))])
            for variable in range(1, judge.many + 1):
                core = judge.core()
                asked = {abs(l) for _, l in problem.price[0]} | {abs(l) for l in judge.order()[0]}
                having = [row for row in core.values() if variable in {abs(l) for _, l in row[0]}]
                if variable in asked or any({w for w, _ in row[0]} | {row[1]} != {1} for row in having):
                    self.refuses(NotEliminated, eliminated_steps, judge, variable)
                    continue
                ones, others, rows = self.rows(judge, variable)
                found = eliminated_steps(judge, variable)
                wanted = [("follow", row) for row in rows]
                wanted += [("core", tuple(range(judge.next_id, judge.next_id + len(rows))))] if rows else []
                wanted += [("leave", p, but_for(judge.many, variable, "yes"), {}) for p in ones]
                wanted += [("leave", n, but_for(judge.many, variable, "no"), {}) for n in others]
                self.same(found, wanted)
                behind = self.let_by(judge, found)
                now = list(behind.core().values())
                self.assertFalse({variable, -variable} & stand(now))
                before = helper.where(judge.many, core.values())
                for at in helper.where(judge.many, now):
                    turned = at[:variable - 1] + (1 - at[variable - 1],) + at[variable:]
                    self.assertTrue(at in before or turned in before)
                self.assertTrue(set(before) <= set(helper.where(judge.many, now)))
                done += 1
                came += len(rows)
        self.assertGreater(min(done, came), 100)

    def test_errors(self):
        judge = Judge(HAND)
        for thing in NO_JUDGES:
            self.refuses(BadJudge, eliminated_steps, thing, None)
        for variable in (None, 0, -1, 3, True, "1", [1], (1,)):
            self.refuses(BadVariable, eliminated_steps, judge, variable)
        judge.step(ORDER)
        self.refuses(NotEliminated, eliminated_steps, judge, 1)
        for row in ((((2, 1), (1, 2)), 1), (((1, 1), (1, 2)), 2), (((1, 1), (1, 2)), 0), (((1, -1), (2, 2)), 1)):
            self.refuses(NotEliminated, eliminated_steps, Judge(Problem(2, [row], EMPTY)), 1)
        self.refuses(NotEliminated, eliminated_steps, Judge(Problem(2, [], (((1, -1),), 0))), 1)

    def test_many_pairs(self):
        def problem(ones, others):
            rows = [(((1, 1), (1, 2 + k)), 1) for k in range(ones)]
            return Problem(100, rows + [(((1, -1), (1, 50 + k)), 1) for k in range(others)], EMPTY)

        self.refuses(TooMany, eliminated_steps, Judge(problem(21, 20)), 1, most=400)
        self.refuses(TooMany, eliminated_steps, Judge(problem(20, 21)), 1, most=400)
        judge = Judge(problem(20, 20))
        found = eliminated_steps(judge, 1)
        self.same(len(found), 441)
        other = judge.copy()
        for step in found:
            other.step(step)
        self.same(len(other.core()), 400)
        wrong = Problem(100, list(problem(21, 20).rows) + [(((2, 1),), 1)], EMPTY)
        self.refuses(NotEliminated, eliminated_steps, Judge(wrong), 1)


class DefinedTest(LetByCase):
    def test_by_hand(self):
        row = (((2, 1), (3, -2)), 4)
        self.same(defined_steps(judge=Judge(HAND), row=row), [
            ("new",), ("witness", (((2, 1), (3, -2), (4, -3)), 4), (1, 2, "no"), {}),
            ("witness", (((2, -1), (3, 2), (2, 3)), 2), (1, 2, "yes"), {})])

    def test_by_chance(self):
        done = 0
        for k in range(300):
            judge = some_judge(self.rng, 3)
            row = helper.some_row(self.rng, judge.many, 3)
            if k % 4 == 0:
                row = (tuple((w * 10 ** 28 + self.rng.randint(0, 9), l) for w, l in row[0]), row[1] * 10 ** 28)
            if row[1] == 0 or helper.impossible(row):
                self.refuses(BadRow, defined_steps, judge, row)
                continue
            found = defined_steps(judge, row)
            self.assertEqual([len(step) for step in found], [1, 4, 4])
            behind = self.let_by(judge, found)
            z = behind.many
            self.assertEqual(z, judge.many + 1)
            before = helper.where(judge.many, judge.known().values())
            self.same(helper.where(z, behind.known().values()),
                      sorted(at + (int(helper.holds(row, at)),) for at in before))
            for step, names in zip(found[1:], ("no", "yes")):
                self.same(step[2], tuple(range(1, z)) + (names,))
            done += 1
        self.assertGreater(done, 50)

    def test_errors(self):
        for thing in NO_JUDGES:
            self.refuses(BadJudge, defined_steps, thing, None)
        judge = Judge(HAND)
        for row in (None, 0, (), [((1, 1),), 1], (((1, 3),), 1), (((1, 1),), 0), (((1, 1),), 2), ((), 0), ((), 1),
                    (((1, True),), 1), (((1, 1),), True)):
            self.refuses(BadRow, defined_steps, judge, row)
        full = Judge(Problem(200, [], EMPTY))
        self.refuses(TooMany, defined_steps, full, (((1, 1),), 1), most=200)
        self.refuses(BadRow, defined_steps, full, ((), 0))
        self.same(len(defined_steps(Judge(Problem(199, [], EMPTY)), (((1, 1),), 1))), 3)


class ExchangedTest(LetByCase):
    def equal(self, l, other):
        return [(tuple(sorted([(1, one), (1, two)], key=lambda pair: abs(pair[1]))), 1)
                for one, two in ((-l, other), (l, -other))]

    def test_by_hand(self):
        rows = self.equal(1, -2) + [(((2, 1), (3, 2), (1, 3)), 3), (((1, 3),), 1), (((1, -1), (1, 3)), 1)]
        judge = Judge(Problem(3, rows, EMPTY))
        found = exchanged_steps(judge=judge, literal=1, other=-2)
        self.same([step[:2] for step in found if step[0] != "derive"],
                  [("core", (6,)), ("leave", 3), ("core", (7,)), ("leave", 5)])
        self.assertTrue(all(set(step[3]) == {("own",)} for step in found if step[0] == "leave"))
        behind = self.let_by(judge, found)
        came = (((1, 2), (1, 3)), 1)
        self.same(behind.core(), {1: rows[0], 2: rows[1], 4: rows[3], 6: came, 7: came})

    def test_by_chance(self):
        done, gone = 0, 0
        for k in range(400):
            many = self.rng.randint(2, 4)
            l, other = helper.some_literals(self.rng, many, 2)
            rows = [helper.some_row(self.rng, many, 5) for _ in range(self.rng.randint(0, 4))]
            if k % 4 == 0:
                rows = [(tuple((w * 10 ** 28 + 1, one) for w, one in row[0]), row[1] * 10 ** 28) for row in rows]
            rows += self.equal(l, other) + self.equal(l, other)[:k % 3]
            self.rng.shuffle(rows)
            price = (helper.some_row(self.rng, many, 3)[0], 0)
            judge = walked(self.rng, 4 if k % 2 else 0, Problem(many, rows, price))
            core = judge.core()
            ids = [[j for j in core if core[j] == row] for row in self.equal(l, other)]
            if [] in ids:
                self.refuses(NotEqual, exchanged_steps, judge, l, other)
                continue
            least = [one[0] for one in ids]
            found = exchanged_steps(judge, l, other)
            leaving = [j for j in core if j not in least and {l, -l} & stand([core[j]])]
            new = judge.next_id
            self.same([step[:2] for step in found if step[0] != "derive"],
                      [part for at, j in enumerate(leaving) for part in (("core", (new + at,)), ("leave", j))])
            self.assertEqual([step[0] for step in found], ["derive", "core", "leave"] * len(leaving))
            for step in found[2::3]:
                self.same((step[2], list(step[3])), (tuple(range(1, judge.many + 1)), [("own",)]))
            behind = self.let_by(judge, found)
            rest = [row for j, row in behind.core().items() if j not in least]
            self.assertFalse({l, -l} & stand(rest))
            self.same(helper.where(judge.many, behind.core().values()), helper.where(judge.many, core.values()))
            done += 1
            gone += len(leaving)
        self.assertGreater(min(done, gone), 200)

    def test_errors(self):
        for thing in NO_JUDGES:
            self.refuses(BadJudge, exchanged_steps, thing, None, None)
        rows = self.equal(1, 2)
        judge = Judge(Problem(3, rows, EMPTY))
        for l in (None, 0, True, 4, -4, "1", [1]):
            self.refuses(BadLiteral, exchanged_steps, judge, l, None)
            self.refuses(BadLiteral, exchanged_steps, judge, 2, l)
        for l in (1, -1):
            self.refuses(BadLiteral, exchanged_steps, judge, 1, l)
            self.refuses(BadLiteral, exchanged_steps, judge, -1, l)
        for pair in ((1, -2), (-1, 2), (1, 3), (3, 2)):
            self.refuses(NotEqual, exchanged_steps, judge, *pair)
        for pair in ((1, 2), (2, 1), (-1, -2), (-2, -1)):
            self.same(exchanged_steps(judge, *pair), [])
        for row in rows:
            self.refuses(NotEqual, exchanged_steps, Judge(Problem(3, [row], EMPTY)), 1, 2)
        derived = Judge(Problem(3, rows[:1], EMPTY))
        derived.step(("derive", [("row", 1)]))
        self.refuses(NotEqual, exchanged_steps, derived, 1, 2)

    def test_all_together(self):
        # One kind behind the other, in any sequence: the meaning is kept.
        for _ in range(60):
            judge = some_judge(self.rng, 3)
            for _ in range(5):
                kind = self.rng.choice("pcesd")
                steps = []
                if kind == "p" and pure_literals(judge):
                    steps = pure_steps(judge, self.rng.choice(pure_literals(judge)))
                if kind == "c":
                    steps = covered_steps(judge)
                if kind == "d" and judge.many < 5:
                    row = helper.some_row(self.rng, judge.many, 3)
                    if row[1] and not helper.impossible(row):
                        steps = defined_steps(judge, row)
                if kind == "e":
                    try:
                        steps = eliminated_steps(judge, self.rng.randint(1, judge.many))
                    except NotEliminated:
                        pass
                if kind == "s":
                    for k in list(judge.core())[:1]:
                        steps = [("leave", k, but_for(judge.many, l, "yes"), {})
                                 for l in blocked_literals(judge, k)[:1]]
                judge = self.let_by(judge, steps)
