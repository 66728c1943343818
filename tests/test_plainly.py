from tests import helper
from tests.helper import Case
from tests.test_going_back import covers
from tests.test_judge import DOMINATE, HAND, ORDER, STRICT_PAPER, LESS, Told, some_problem, state
from tests.test_learning import loose_rows
from tests.test_likenesses import NO_PROBLEMS, alike_problem
from tests.test_meaning import EMPTY, walked
from tests.test_redundance import clause_problem
from tests.test_seeking import clashing_problem, some_guide, tight_problem
from witnesslog.choice import choice, choice_log
from witnesslog.counting import counting
from witnesslog.cores import guarded, guarded_log
from witnesslog.dominance import preference_steps
from witnesslog.errors import BadLog, BadProblem, NotEliminated
from witnesslog.firsts import likeness_steps
from witnesslog.judge import Judge, is_log
from witnesslog.least import least
from witnesslog.lorries import lorries, lorry_log
from witnesslog.orders import both, by_weights, lexicographic, papers_by_sums
from witnesslog.pigeons import pigeons
from witnesslog.plainly import is_plain, plain
from witnesslog.problems import Problem
from witnesslog.redundance import covered_steps, defined_steps, eliminated_steps, pure_literals, pure_steps
from witnesslog.seeking import solve, solve_with


class PlainJudge(Told):
    """A judge that neither follows nor covers: it works derivations off, and looks whether rows are impossible."""

    def follow_step(self, row):
        return False

    def all_met(self, many, assumed, goals, papers):
        if type(papers) is not dict or not all(key in papers for key in goals):
            return False
        return all(type(key) is tuple and not any(type(part) is bool for part in key) and key in goals
                   and self.refuted(many, {**assumed, -2: helper.opposite(goals[key])}, papers[key]) for key in papers)

    def dominate_step(self, row, witness, papers):
        if type(papers) is not dict or ("strict",) not in papers:
            return False
        return Told.dominate_step(self, row, witness, papers)


def right_plain(problem, thing):
    """is_plain, in plain words."""
    if type(thing) not in (list, tuple):
        return False
    judge = PlainJudge(problem)
    return all(judge.takes(step) for step in thing)


def log_of_every_kind(rng, words):
    """A problem and a log for it, by chance, of drawn steps or of the steps that some function tells."""
    kind = rng.randint(0, 7)
    if kind <= 2:
        judge = walked(rng, 25, some_problem(rng))
        problem, log = judge.problem, judge.log()
    elif kind == 3:
        problem = tight_problem(rng)
        guide = some_guide(rng, problem.many, 20)
        log = least(problem, [rng.choice(("above", "below")) for _ in range(4)], guide)[-1]
    elif kind == 4:
        problem, exchanges = alike_problem(rng)
        log = likeness_steps(problem, exchanges)
    elif kind == 5:
        problem = some_problem(rng, 4)
        log = preference_steps(problem, helper.some_literals(rng, problem.many))
    elif kind == 6:
        judge = Judge(clause_problem(rng, rng.randint(2, 4), rng.randint(2, 6)))
        problem, log = judge.problem, []
        for _ in range(3):
            log += told_steps(rng, judge)
    else:
        problem = tight_problem(rng)
        log = solve_with(problem, tuple(helper.some_literals(rng, problem.many)), [])[-1]
    for step in log:
        words[step[0], len(step)] = words.get((step[0], len(step)), 0) + 1
    return problem, log


def told_steps(rng, judge):
    """Steps told for the judge, which has read them then."""
    steps = covered_steps(judge) if rng.random() < 0.3 else []
    try:
        steps = steps or eliminated_steps(judge, rng.randint(1, judge.many))
    except NotEliminated:
        if pure_literals(judge):
            steps = pure_steps(judge, rng.choice(pure_literals(judge)))
        else:
            steps = defined_steps(judge, (((1, 1), (1, -judge.many)), 1) if judge.many > 1 else (((1, 1),), 1))
    for step in steps:
        judge.step(step)
    return steps


class PlainTest(Case):
    def check(self, problem, log):
        found = plain(problem, log)
        self.assertIs(type(found), list)
        self.same(len(found), len(log))
        self.same(is_plain(problem, found), True)
        here, there, own = Judge(problem), Judge(problem), PlainJudge(problem)
        for step, told in zip(log, found):
            here.step(step)
            there.step(told)
            self.assertTrue(own.takes(told), told)
            self.same(state(there), state(here))
            if step[0] == "follow":
                self.same(told[:2], ("refute", step[1]))
            elif step[0] in ("witness", "dominate", "order") or len(step) == 4:
                self.same(told[:-1], step[:-1])
                self.same(list(told[-1]), sorted(told[-1]))
                for key in step[-1]:
                    self.same(told[-1][key], step[-1][key])
            else:
                self.same(told, step)
        self.same(own.state(), state(here))
        self.same(plain(problem, found), found)
        return found

    def test_by_hand(self):
        log = [ORDER, DOMINATE, ("follow", (((1, 2),), 1)), ("plan", (0, 1))]
        found = self.check(HAND, log)
        self.same(plain(problem=HAND, log=tuple(log)), found)
        self.same((is_plain(HAND, log), is_plain(HAND, found), is_plain(problem=HAND, thing=tuple(found))),
                  (False, True, True))
        self.same(sorted(found[1][3]), [("order", 0), ("price",), ("row", 1), ("strict",)])
        self.same(found[2][0], "refute")
        self.same((plain(HAND, []), is_plain(HAND, []), is_plain(HAND, [("new",)])), ([], True, True))

    def test_logs_of_every_kind(self):
        words = {}
        for _ in range(260):
            problem, log = log_of_every_kind(self.rng, words)
            self.check(problem, log)
            self.same(is_plain(problem, log), right_plain(problem, log))
        self.same(len(words), 11)
        self.assertGreater(min(words.values()), 5)

    def test_families(self):
        for problem, log in ((choice([1, 2, 2, 5], 2), choice_log([1, 2, 2, 5], 2)), pigeons(3),
                             (lorries([3, 2], 3, 4), lorry_log([3, 2], 3, 4)),
                             (guarded([[3, 1, 2], [4, 4]]), guarded_log([[3, 1, 2], [4, 4]]))):
            self.check(problem, log)
        problem = clashing_problem(self.rng, 10, 50)
        self.check(problem, solve(problem, [1, 2, "restart", ("forget", 3)])[-1])
        problem = Problem(4, [(tuple((1, v) for v in range(1, 5)), 1)], EMPTY)
        self.check(problem, counting(Judge(problem), 1))

    def test_long_following_and_wide_rows(self):
        # A chain along which all variables follow, and weights of thirty digits.
        great = 10 ** 29
        rows = [(((great + v, -v), (great, v + 1)), great) for v in range(1, 60)] + [(((7, 1),), 1)]
        problem = Problem(60, rows, (((great, 60),), 0))
        self.check(problem, [("follow", (((1, 60),), 1)), ("plan", (1,) * 60), ("follow", ((), 1))])

    def test_what_covers_makes_the_sum_impossible(self):
        covered = 0
        for _ in range(4000):
            many = self.rng.randint(1, 4)
            one, other = helper.some_row(self.rng, many, 3), helper.some_row(self.rng, many, 3)
            if other[1] > 0:
                turned = helper.opposite(other)
                summed = helper.normal(many, one[0] + turned[0], one[1] + turned[1])
                self.same(covers(one, other), helper.impossible(summed))
                covered += covers(one, other)
        self.assertGreater(covered, 100)

    def test_what_following_refutes_has_a_derivation(self):
        refuted = 0
        for _ in range(300):
            many = self.rng.randint(1, 6)
            problem = Problem(many, loose_rows(self.rng, many, 2 * many + 1), EMPTY)
            row = helper.some_row(self.rng, many, 3)
            steps, clash = helper.followed(list(problem.rows) + [helper.opposite(row)], [])
            if clash is not None:
                told = self.check(problem, [("follow", row)])[0][2]
                self.assertLessEqual(len(told), (len(steps) + 1) * (many + 9))
                refuted += 1
        self.assertGreater(refuted, 50)

    def test_orders(self):
        order = by_weights(3, ((2, 1), (1, -3)))
        wide = lexicographic(20, list(range(1, 21)))
        problem = Problem(20, [], EMPTY)
        for thing in (order, wide, ((), ()), ((1, 2), ()), ((1,), ((((1, -1), (1, 2)), 1),))):
            self.check(problem, [("order", thing, papers_by_sums(20, thing))])
            if len(thing[0]) < 3:
                self.check(problem, [("order", thing, {})] if is_log(problem, [("order", thing, {})]) else [])
        step = ("order", order, papers_by_sums(3, order))
        self.same((is_plain(problem, [step]), is_plain(problem, [("order", ((), ()), {})])), (True, True))
        one = ((1,), ((((1, -1), (1, 2)), 1),))
        self.same((is_log(problem, [("order", one, {})]), is_plain(problem, [("order", one, {})])), (True, False))

    def test_strict_rows_of_an_order_of_several(self):
        order = both(3, both(3, by_weights(3, ((1, 1),)), by_weights(3, ((1, 2),))), by_weights(3, ((2, 3),)))
        problem = Problem(3, [], EMPTY)
        log = [("order", order, papers_by_sums(3, order)), ("dominate", (((1, -3),), 1), (1, 2, "no"), {}),
               ("dominate", (((1, -2),), 1), (1, "no", 3), {}), ("dominate", (((1, -1),), 1), ("no", 2, 3), {})]
        found = self.check(problem, log)
        self.same([("row", -5) in found[1][3][("strict",)], ("row", -4) in found[2][3][("strict",)],
                   ("row", -3) in found[3][3][("strict",)]], [True, True, True])

    def test_each_missing_paper(self):
        done = {}
        for log in ([ORDER, DOMINATE], [("witness", (((1, 1),), 1), ("yes", 2), {}), ("follow", (((1, 1),), 1))],
                    [("leave", 1, ("yes", 2), {})], [ORDER]):
            found = plain(HAND, log)
            for k, step in enumerate(found):
                papers = step[-1] if type(step[-1]) is dict else {}
                for key in papers:
                    less = step[:-1] + ({other: papers[other] for other in papers if other != key},)
                    thing = found[:k] + [less] + found[k + 1:]
                    self.same(is_plain(HAND, thing), False)
                    done[step[0], key[0]] = is_log(HAND, thing)
        self.assertTrue(done["dominate", "strict"] and done["witness", "own"] and done["leave", "own"])
        self.assertIn(("order", "along"), done)

    def test_any_value(self):
        log = plain(HAND, [ORDER, DOMINATE, ("follow", (((1, 2),), 1))])
        for thing in helper.odd_values() + helper.variants(log[:1]) + helper.variants(log[1:2]):
            for made in (thing, [thing], log[:1] + [thing], thing + [] if type(thing) is list else thing):
                self.same(is_plain(HAND, made), right_plain(HAND, made), made)
        for thing in helper.variants(log[1]):
            self.same(is_plain(HAND, [log[0], thing]), right_plain(HAND, [log[0], thing]), thing)
        self.same(is_plain(HAND, [log[0], ("dominate", LESS, (2, 1), {("strict",): STRICT_PAPER})]), False)

    def test_errors(self):
        for thing in NO_PROBLEMS:
            self.refuses(BadProblem, plain, thing, None)
            self.refuses(BadProblem, is_plain, thing, None)
        for log, index in ((None, 0), ({}, 0), ("", 0), ([None], 0), ([("new",), ("leave", 1)], 1),
                           ([ORDER, DOMINATE, DOMINATE, ("plan", (0, 0))], 3)):
            self.refuses(BadLog, plain, HAND, log, index=index)

    def test_what_is_told_is_new(self):
        log = [("derive", [("row", 1)]), ("leave", 1, ("yes", 2), {})]
        found = plain(HAND, log)
        found[0][1].clear()
        found[1][3].clear()
        self.same(log, [("derive", [("row", 1)]), ("leave", 1, ("yes", 2), {})])
