import copy

from tests import helper
from tests.helper import Case
from tests.test_learning import loose_rows
from tests.test_judge import DOMINATE, HAND, LESS, ORDER, paper_for, some_problem, state
from tests.test_meaning import walked
from witnesslog.choice import choice, choice_log
from witnesslog.cuts import cuts, renamed, renamed_log, trimmed
from witnesslog.errors import BadExchange, BadLog, BadProblem
from witnesslog.going_back import settled
from witnesslog.judge import is_log, judged
from witnesslog.meaning import floor, is_proved
from witnesslog.orders import by_weights, papers_by_sums
from witnesslog.pigeons import pigeons
from witnesslog.problems import Problem, plans
from witnesslog.witnesses import led_filling, led_literal, led_row, turned

ADDING = ("derive", "follow", "refute", "witness", "dominate")
NO_PROBLEMS = (None, 0, [], {}, (2, [], ((), 0)), "problem")


def shows(judge):
    return (judge.best, is_proved(judge), floor(judge))


def as_much(one, other):
    """Whether the judge one shows as much as other."""
    if one.best != other.best:
        return False
    return is_proved(one) or not is_proved(other) and floor(one) >= floor(other)


def named(thing):
    """All ids that a part of a step names."""
    found = []
    if type(thing) is tuple and len(thing) == 2 and thing[0] == "row":
        found.append(thing[1])
    elif type(thing) in (list, tuple):
        for item in thing:
            found.extend(named(item))
    elif type(thing) is dict:
        for key, item in thing.items():
            found.extend(named(key) + named(item))
    return found


def ids_of(step):
    if step[0] == "order":
        return []
    found = named(step[1:])
    if step[0] == "leave":
        found.append(step[1])
    if step[0] == "core":
        found.extend(step[1])
    return found


def moved(thing, missing):
    if type(thing) is tuple and len(thing) == 2 and thing[0] == "row":
        return ("row", thing[1] - (thing[1] > missing))
    if type(thing) is dict:
        return {moved(key, missing): moved(item, missing) for key, item in thing.items()}
    if type(thing) in (list, tuple):
        return type(thing)(moved(item, missing) for item in thing)
    return thing


def moved_step(step, missing):
    if step[0] == "order":
        return step
    if step[0] == "core":
        return (step[0], tuple(k - (k > missing) for k in step[1]))
    if step[0] == "leave":
        return (step[0], step[1] - (step[1] > missing)) + moved(step[2:], missing)
    return moved(step, missing)


def without(problem, log, index):
    """The log without one step: three readings of what becomes of a step that names the missing id."""
    missing = judged(problem, log[:index]).next_id if log[index][0] in ADDING else 10 ** 9
    later = log[index + 1:]
    not_let_by = [None if missing in ids_of(step) else moved_step(step, missing) for step in later]
    as_it_was = [step if missing in ids_of(step) else moved_step(step, missing) for step in later]
    others_moved = [moved_step(step, missing) for step in later]
    return [log[:index] + steps for steps in (not_let_by, as_it_was, others_moved)]


def raise_floor(judge):
    """A step that says what the terms of the price come to where all known rows hold."""
    at = helper.where(judge.many, judge.known().values())
    pairs = judge.problem.price[0]
    low = min([helper.comes_to(pairs, one) for one in at], default=None)
    row = ((), 1) if low is None else (pairs, low)
    judge.step(("refute", row, paper_for(judge.many, {**judge.known(), -1: helper.opposite(row)}, {})))


class CutsTest(Case):
    def test_cuts(self):
        found = cuts(problem=HAND, log=[ORDER, DOMINATE])
        self.same([judge.known() for judge in found],
                  [{1: HAND.rows[0]}, {1: HAND.rows[0]}, {1: HAND.rows[0], 2: LESS}])
        self.same([len(judge) for judge in found], [0, 1, 2])
        self.same([judge.log() for judge in found], [[], [ORDER], [ORDER, DOMINATE]])
        self.same(len(cuts(HAND, ())), 1)
        found[0].step(("new",))
        self.same(found[1].many, 2)
        for _ in range(30):
            problem = some_problem(self.rng)
            log = walked(self.rng, 15, problem).log()
            found = cuts(problem, tuple(log))
            self.assertEqual(len(found), len(log) + 1)
            for k, judge in enumerate(found):
                self.assertEqual(judge, judged(problem, log[:k]))
                self.same(state(judge), state(judged(problem, log[:k])))

    def test_errors(self):
        for call, more in ((cuts, []), (trimmed, []), (renamed_log, [None])):
            for problem in NO_PROBLEMS:
                self.refuses(BadProblem, call, problem, None, *more)
            for log in (None, 0, {}, "", HAND, True):
                self.refuses(BadLog, call, HAND, log, *more, index=0)
            for wrong in (None, [], ("leave", 7), list(ORDER)):
                self.refuses(BadLog, call, HAND, [ORDER, wrong, None], *more, index=1)
        for problem in NO_PROBLEMS:
            self.refuses(BadProblem, renamed, problem, None)
        for exchange in (None, (1,), (1, 1), (1, -1), ("yes", 1), [1, 2], (1, True), (0, 1), (1, 3), (1, 2, 3)):
            self.refuses(BadExchange, renamed, HAND, exchange)
            self.refuses(BadExchange, renamed_log, HAND, [ORDER, ("new",)], exchange)


class TrimmedTest(Case):
    def check(self, problem, log):
        whole = judged(problem, log)
        found = trimmed(problem, log)
        self.assertIs(type(found), list)
        judge = judged(problem, found)
        self.assertTrue(as_much(judge, whole))
        self.assertLessEqual(len(found), len(log))
        for k in range(len(found)):
            for shorter in without(problem, found, k):
                if is_log(problem, shorter):
                    self.assertFalse(as_much(judged(problem, shorter), whole), (found, k))
        self.same(trimmed(problem, found), found)
        return found

    def test_by_hand(self):
        log = [("derive", [("row", 1)]), ("follow", (((1, 1), (1, 2)), 1)), ("new",), ("leave", 3), ("plan", (0, 1)),
               ("leave", 2)]
        self.same(self.check(HAND, log), [("plan", (0, 1))])
        self.same(trimmed(problem=HAND, log=[ORDER, DOMINATE]), [])
        self.same(trimmed(HAND, []), [])
        price = Problem(2, HAND.rows, (((1, 1), (2, 2)), 0))
        log = [("plan", (1, 1)), ("derive", [("row", 1)]), ("plan", (0, 1)), ("derive", [("row", 2)]),
               ("plan", (1, 0)), ("derive", [("row", 0), ("row", 3), ("sum",)]), ("leave", 2)]
        self.same(self.check(price, log), [("derive", [("row", 1)]), ("derive", [("row", 2)]), ("plan", (1, 0)),
                                           ("derive", [("row", 0), ("row", 3), ("sum",)])])
        self.same(self.check(price, log[:5]), [("plan", (1, 0))])

    def test_ids_move(self):
        problem = Problem(2, [(((1, 1), (1, 2)), 1), (((1, 1), (1, -2)), 1)], (((2, 1),), 0))
        log = [("derive", [("row", 2)]), ("derive", [("row", 1), ("row", 2), ("sum",)]), ("derive", (("row", 1),)),
               ("derive", (("row", 4), ("divided", 2), ("times", 2)))]
        self.same(self.check(problem, log), [("derive", [("row", 1), ("row", 2), ("sum",)]),
                                             ("derive", (("row", 3), ("divided", 2), ("times", 2)))])

    def test_ids_move_in_steps_of_all_kinds(self):
        # The row 1 has to leave, so that 3 is preferred to 2; the variable 4 is defined twice, one row gone between.
        problem = Problem(3, [(((1, 1), (1, 2)), 1), (((1, -1), (1, 3)), 1), (((1, 2), (1, 3)), 0)],
                          (((2, 2), (2, 3)), 0))
        order = by_weights(3, ((1, 2),))

        def told(first):
            one, other, third, fourth, fifth = range(first, first + 5)
            kept = (("row", one), ("row", -2), ("sum",))
            half = [("row", third), ("weakened", 4), ("row", other), ("sum",), ("row", one), ("sum",), ("divided", 2)]
            last = [("row", fourth), ("times", 2), ("row", fifth), ("weakened", 4), ("sum",), ("row", -1), ("sum",)]
            return [("follow", (((1, 2), (1, 3)), 1)), ("core", (one,)),
                    ("leave", 1, ("yes", 2, 3), {("own",): [("row", -2)], ("row", one): list(kept)}),
                    ("dominate", (((1, -2), (1, 3)), 1), (1, 3, 2), {("row", one): kept}), ("new",),
                    ("witness", (((1, 4),), 1), (1, 2, 3, "yes"), {("row", one): kept}),
                    ("derive", half), ("leave", third),
                    ("witness", (((1, -4),), 1), (1, 2, 3, "no"), {("row", one): kept}),
                    ("refute", (((2, 3),), 2), last)]

        begin = ("order", order, papers_by_sums(3, order))
        junk = ("derive", [("row", 3)])
        shortest = [begin] + told(4)
        self.same(floor(judged(problem, shortest)), 2)
        self.same(self.check(problem, shortest), shortest)
        self.same(self.check(problem, [begin, junk] + told(5)), shortest)
        self.same(self.check(problem, [begin, junk, junk, ("leave", 5)] + told(6)), shortest)

    def test_named_ids_by_each_reading(self):
        # Where the first of these rows is left out, the last steps name others that do as well.
        rows = [(((1, 1),), 1), (((1, -1),), 1), (((1, 2),), 1), (((1, -2),), 1)]
        problem = Problem(4, rows, (((3, 3), (4, 4)), 0))

        def told(copied, *pairs):
            steps = [("derive", [("row", k)]) for k in copied]
            for (one, other), row in zip(pairs, ((((3, 3),), 3), (((4, 4),), 4))):
                steps.append(("refute", row, [("row", one), ("row", other), ("sum",)]))
            return steps + [("derive", [("row", 9), ("row", 10), ("sum",)])]

        # As it was: 5 and 7 are 2 + 4 ahead of it. With its other ids moved: 5 and 6 are.
        for log in (told((1, 3, 2, 4), (5, 7), (6, 8)), told((1, 1, 2, 3), (5, 7), (6, 7))):
            self.same(floor(judged(problem, log)), 7)
            self.assertLess(len(self.check(problem, log)), len(log))

    def test_proofs(self):
        for holes in (1, 2, 3):
            problem, log = pigeons(holes)
            found = self.check(problem, [("new",)] + log + [("derive", [("row", 1)])])
            self.assertTrue(is_proved(judged(problem, found)))
            self.assertLessEqual(len(found), len(log))

    def test_choice(self):
        for prices, least in (([1, 3], 1), ([0, 1, 1, 4], 2), ([2, 2, 2], 0), ([0, 0], 1), ([1, 2, 3, 4, 5, 6], 3)):
            self.check(choice(prices, least), choice_log(prices, least))

    def test_by_chance(self):
        lengths = []
        for k in range(120):
            problem = some_problem(self.rng)
            judge = walked(self.rng, 25, problem)
            if k % 3:
                raise_floor(judge)
            log = judge.log()
            lengths.append(len(self.check(problem, log)))
        self.assertGreater(len([n for n in lengths if n > 0]), 30)

    def test_learned(self):
        lengths = []
        while len(lengths) < 25:
            many = self.rng.randint(3, 5)
            rows = loose_rows(self.rng, many, 5 * many)
            word, last, more = settled(many, rows, helper.some_literals(self.rng, many, many))
            if word == "none" and len(more) > 1:
                log = [("derive", [("row", told[1] + 1) if told[0] == "row" else told for told in derivation])
                       for derivation in [one for _, one in more] + [last]]
                price = (((1, 1), (2, 2)), 3) if len(lengths) % 2 else ((), 0)
                lengths.append(len(self.check(Problem(many, rows, price), log)))
        self.assertGreater(len([n for n in lengths if n > 2]), 10)

    def test_rows_that_leave(self):
        # A row that must leave, so that the variable may be eliminated, and an order that needs an empty derived.
        problem = Problem(3, [(((1, 1), (1, 2)), 1), (((1, -1), (1, 3)), 1)], (((3, 2), (3, 3)), 1))
        log = [("new",), ("follow", (((1, 2), (1, 3)), 1)), ("core", (3,)), ("leave", 1, ("yes", 2, 3, 4), {}),
               ("leave", 2, ("no", 2, 3, 4), {}), ("derive", [("row", 3), ("times", 3)])]
        found = self.check(problem, log)
        self.same(floor(judged(problem, found)), 4)


class RenamedTest(Case):
    def test_by_hand(self):
        problem = Problem(2, [(((2, 1), (1, -2)), 2)], (((5, 1), (7, 2)), 3))
        found = renamed(problem=problem, exchange=(-2, 1))
        self.assertEqual(found, Problem(2, [(((1, -1), (2, -2)), 2)], (((7, 1), (5, -2)), 3)))
        log = [("plan", (1, 0)), ("derive", [("row", 1), ("literal", 2), ("sum",), ("weakened", 1)]), ("new",),
               ("witness", (((1, 3),), 1), (1, 2, "yes"), {})]
        wanted = [("plan", (0, 0)), ("derive", [("row", 1), ("literal", 1), ("sum",), ("weakened", 2)]), ("new",),
                  ("witness", (((1, 3),), 1), (1, 2, "yes"), {})]
        self.same(renamed_log(problem=problem, log=log, exchange=(-2, 1)), wanted)
        judged(found, wanted)

    def test_problems(self):
        for _ in range(200):
            problem = some_problem(self.rng)
            exchange = helper.some_exchange(self.rng, problem.many)
            found = renamed(problem, exchange)
            self.same(found.rows, tuple(led_row(problem.many, exchange, row) for row in problem.rows))
            self.same(found.price[1], problem.price[1])
            self.same(sorted(found.price[0]), sorted((w, led_literal(problem.many, exchange, l))
                                                     for w, l in problem.price[0]))
            self.assertTrue(helper.terms(problem.many, found.price[0]))
            back = turned(problem.many, exchange)
            self.same(plans(found), sorted(led_filling(problem.many, back, plan) for plan in plans(problem)))
            self.assertEqual(renamed(found, back), problem)

    def test_logs(self):
        words = {}
        for _ in range(150):
            problem = some_problem(self.rng)
            exchange = helper.some_exchange(self.rng, problem.many)
            other = renamed(problem, exchange)
            log = walked(self.rng, 30, problem).log()
            before = copy.deepcopy(log)
            found = renamed_log(problem, log, exchange)
            self.same(log, before)
            self.assertIs(type(found), list)
            for one, step in zip(cuts(problem, log), cuts(other, found)):
                self.same(shows(one), shows(step))
                self.same((list(one.core()), list(one.derived()), one.many), (list(step.core()), list(step.derived()),
                                                                          step.many))
                images = exchange + tuple(range(problem.many + 1, one.many + 1))
                self.same([led_row(one.many, images, row) for row in one.known().values()], list(step.known().values()))
                self.same(tuple(led_literal(one.many, images, l) for l in one.order()[0]), step.order()[0])
            self.same(renamed_log(other, found, turned(problem.many, exchange)), log)
            for step in log:
                words[step[0], len(step)] = words.get((step[0], len(step)), 0) + 1
        self.assertEqual(len(words), 11)
        self.assertGreater(min(words.values()), 3, words)
