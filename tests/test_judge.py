import copy

from tests import helper
from tests.helper import Case
from tests.test_goals import met, told_goals
from tests.test_learning import loose_rows
from tests.test_orders import order as is_told_order
from tests.test_orders import some_order, worths
from witnesslog.back import led_back, left
from witnesslog.errors import BadLog, BadProblem, BadStep
from witnesslog.judge import Judge, is_log, judged
from witnesslog.orders import by_weights, lexicographic, papers_by_sums, rows_along, rows_at, soundness
from witnesslog.problems import Problem
from witnesslog.proving import refutation

HAND = Problem(2, [(((1, 1), (1, 2)), 1)], ((), 0))
LEX = lexicographic(2, (1, 2))
ORDER = ("order", LEX, papers_by_sums(2, LEX))
LESS = (((1, -1), (1, 2)), 1)
DOMINATE = ("dominate", LESS, (2, 1), {})
STRICT_PAPER = (("row", -1), ("row", -3), ("sum",))


def plain_number(thing):
    return helper.number(thing)


class Told:
    """A judge, said again in plain words: rows by ids, and whether a step is let by."""

    def __init__(self, problem):
        self.problem, self.many, self.best = problem, problem.many, None
        self.core = {k + 1: row for k, row in enumerate(problem.rows)}
        self.derived, self.order, self.left, self.next = {}, ((), ()), [], len(problem.rows) + 1

    def state(self):
        return (self.many, self.best, sorted(self.core.items()), sorted(self.derived.items()), self.order, self.left,
                self.next)

    def known(self, core=None, derived=None):
        rows = {**(self.core if core is None else core), **(self.derived if derived is None else derived)}
        if self.best is not None:
            pairs, base = self.problem.price
            bound = max(0, sum(w for w, _ in pairs) + base - self.best + 1)
            rows[0] = (tuple((w, -l) for w, l in pairs), bound)
        return dict(sorted(rows.items()))

    def takes(self, step):
        if type(step) is not tuple or not step or type(step[0]) is not str:
            return False
        parts = {"derive": 1, "follow": 1, "refute": 2, "plan": 1, "new": 0, "core": 1, "witness": 3, "dominate": 3,
                 "order": 2, "leave": 3 if len(step) == 4 else 1}
        if parts.get(step[0]) != len(step) - 1:
            return False
        return bool(getattr(self, step[0] + "_step")(*step[1:]))

    def add(self, row):
        self.derived[self.next] = row
        self.next += 1
        return True

    def derive_step(self, derivation):
        word, row = helper.end(self.many, self.known(), derivation)
        return word == "end" and self.add(row)

    def follow_step(self, row):
        if not helper.row(self.many, row):
            return False
        rows = list(self.known().values()) + [helper.opposite(row)]
        return helper.followed(rows, [])[1] is not None and self.add(row)

    def refuted(self, many, rows, derivation):
        word, row = helper.end(many, rows, derivation)
        return word == "end" and helper.impossible(row)

    def refute_step(self, row, derivation):
        if not helper.row(self.many, row):
            return False
        return self.refuted(self.many, {**self.known(), -1: helper.opposite(row)}, derivation) and self.add(row)

    def plan_step(self, at):
        if not helper.filling(self.problem.many, at) or not all(helper.holds(row, at) for row in self.problem.rows):
            return False
        price = helper.comes_to(self.problem.price[0], at) + self.problem.price[1]
        if self.best is not None and price >= self.best:
            return False
        self.best = price
        return True

    def new_step(self):
        if self.many >= 200:
            return False
        self.many += 1
        return True

    def core_step(self, ids):
        if type(ids) is not tuple or not ids or not all(plain_number(k) and k in self.derived for k in ids):
            return False
        if any(one >= other for one, other in zip(ids, ids[1:])):
            return False
        for k in ids:
            self.core[k] = self.derived.pop(k)
        return True

    def all_met(self, many, assumed, goals, papers):
        if type(papers) is not dict:
            return False
        for key, derivation in papers.items():
            if type(key) is not tuple or any(type(part) is bool for part in key) or key not in goals:
                return False
            if not self.refuted(many, {**assumed, -2: helper.opposite(goals[key])}, derivation):
                return False
        return all(key in papers or met(list(assumed.values()), goals[key]) for key in goals)

    def witnessed(self, known, row, witness, papers):
        goals = told_goals(self.many, known, self.problem.price, self.order, witness, row)
        return self.all_met(self.many, {**known, -1: helper.opposite(row)}, goals, papers)

    def witness_step(self, row, witness, papers):
        if not helper.row(self.many, row) or not helper.witness(self.many, witness):
            return False
        return self.witnessed(self.known(), row, witness, papers) and self.add(row)

    def dominate_step(self, row, witness, papers):
        if not helper.row(self.many, row) or not helper.witness(self.many, witness) or type(papers) is not dict:
            return False
        goals = told_goals(self.many, self.core, self.problem.price, self.order, witness, None)
        assumed = {**self.known(), -1: helper.opposite(row)}
        others = {key: papers[key] for key in papers if key != ("strict",)}
        if not self.all_met(self.many, assumed, goals, others):
            return False
        strict = rows_at(self.many, self.order, tuple(range(1, self.many + 1)), witness)
        if ("strict",) in papers:
            named = {**assumed, **{-3 - k: one for k, one in enumerate(strict)}}
            return self.refuted(self.many, named, papers[("strict",)]) and self.add(row)
        return helper.followed(list(assumed.values()) + strict, [])[1] is not None and self.add(row)

    def leave_step(self, k, *more):
        if not plain_number(k):
            return False
        if not more:
            return self.derived.pop(k, None) is not None
        witness, papers = more
        if k not in self.core or not helper.witness(self.many, witness):
            return False
        others = {other: row for other, row in self.core.items() if other != k}
        if not self.witnessed(self.known(others, {}), self.core[k], witness, papers):
            return False
        self.left.append((self.core.pop(k), witness))
        return True

    def order_step(self, thing, papers):
        if self.derived or not is_told_order(self.many, thing):
            return False
        same = tuple(range(1, self.many + 1))
        if any(bound > 0 for _, bound in rows_at(self.many, thing, same, same)):
            return False
        one, two, along = rows_along(self.many, thing)
        goals = {("along", k): row for k, row in enumerate(along)}
        if not self.all_met(3 * len(thing[0]), dict(enumerate(one + two)), goals, papers):
            return False
        self.order = thing
        return True


def state(judge):
    """What a judge tells of itself."""
    return (judge.many, judge.best, list(judge.core().items()), list(judge.derived().items()), judge.order(),
            list(left(judge)), judge.next_id)


def price_at(problem, at):
    return helper.comes_to(problem.price[0], at) + problem.price[1]


def kept(judge):
    """Whether M1, M2 and M3 hold, by all fillings."""
    problem, best = judge.problem, judge.best
    core, known = list(judge.core().values()), list(judge.known().values())
    below = [at for at in helper.where(judge.many, core) if best is None or price_at(problem, at) < best]
    prices = [price_at(problem, at) for at in below]
    own = list(problem.rows)
    for plan in helper.where(problem.many, own):
        if best is None or price_at(problem, plan) < best:
            if not any(price <= price_at(problem, plan) for price in prices):
                return False
    served = helper.where(judge.many, known)
    thing = judge.order()
    for at, price in zip(below, prices):
        if not any(price_at(problem, other) <= price and all(
                helper.holds(row, worths(thing, other) + worths(thing, at)) for row in thing[1]) for other in served):
            return False
        plan = led_back(judge, at)
        if not all(helper.holds(row, plan) for row in own) or price_at(problem, plan) > price:
            return False
    return True


def paper_for(many, assumed, more):
    """A derivation from the assumed rows and more, dicts, that ends in an impossible row; None if there is none."""
    names = list(assumed) + list(more)
    word, told = refutation(many, list(assumed.values()) + list(more.values()))
    if word == "some":
        return None
    return [("row", names[one[1]]) if one[0] == "row" else one for one in told]


def papers_for(judge, step, share, rng):
    """Papers for a share of the goals of the step, where there are derivations."""
    word, row, witness = step[:3]
    assumed = {**judge.known(), -1: helper.opposite(row)}
    rows = judge.known() if word == "witness" else judge.core()
    own = row if word == "witness" else None
    goals = told_goals(judge.many, rows, judge.problem.price, judge.order(), witness, own)
    told = {key: paper_for(judge.many, assumed, {-2: helper.opposite(goals[key])}) for key in goals}
    if word == "dominate":
        strict = rows_at(judge.many, judge.order(), tuple(range(1, judge.many + 1)), witness)
        told[("strict",)] = paper_for(judge.many, assumed, {-3 - k: one for k, one in enumerate(strict)})
    return {key: told[key] for key in sorted(told, reverse=True) if told[key] is not None and rng.random() < share}


def some_problem(rng, most=4):
    many = rng.randint(1, most)
    rows = loose_rows(rng, many, rng.randint(0, 3))
    price = (helper.some_row(rng, many, 3)[0], rng.randint(-3, 3))
    return Problem(many, rows, price if rng.random() < 0.7 else ((), 0))


def near_witness(rng, many):
    """A witness that differs in one or two images from the unchanged one, or an exchange of two."""
    found = list(range(1, many + 1))
    one, other = rng.randint(1, many), rng.randint(1, many)
    if rng.random() < 0.5:
        found[one - 1], found[other - 1] = found[other - 1], found[one - 1]
    else:
        for v in {one, other}:
            found[v - 1] = rng.choice(["yes", "no", -v, one, -other])
    return tuple(found)


def less_step(rng, judge, word):
    """The step for a row that says that a literal is worth at least what another one is, by their exchange."""
    one, other = helper.some_literals(rng, judge.many, 2)
    witness = list(range(1, judge.many + 1))
    witness[abs(one) - 1] = other if one > 0 else -other
    witness[abs(other) - 1] = one if other > 0 else -one
    return (word, helper.normal(judge.many, [(1, one), (-1, other)], 0), tuple(witness), {})


def some_step(rng, judge):
    """A step by chance, that has some chance to be let by."""
    many, known = judge.many, judge.known()
    if rng.random() < 0.3 and many > 1:
        return less_step(rng, judge, rng.choice(("witness", "dominate", "dominate")))
    word = rng.choice(["derive", "follow", "refute", "plan", "new", "core", "leave", "leave", "witness", "witness",
                       "witness", "dominate", "dominate", "dominate", "leave4", "leave4", "order"])
    ids = list(judge.derived())
    row = helper.some_row(rng, many, 2, 2)
    if rng.random() < 0.6:
        row = (tuple((1, l) for _, l in row[0]), min(1, len(row[0])))
    witness = near_witness(rng, many)
    if word == "derive":
        return (word, helper.some_derivation(rng, many, list(known), rng.randint(1, 5)))
    if word == "follow":
        return (word, row)
    if word == "refute":
        told = paper_for(many, {**known, -1: helper.opposite(row)}, {})
        return (word, row, told or [("row", -1)])
    if word == "plan":
        return (word, helper.some_filling(rng, judge.problem.many))
    if word == "new":
        return (word,) if many < 5 else ("leave", rng.choice(ids or [1]))
    if word == "core":
        return (word, tuple(sorted(rng.sample(ids, rng.randint(0, len(ids))))))
    if word == "leave":
        return (word, rng.choice(ids + [rng.randint(0, 9)]))
    if word == "leave4":
        return ("leave", rng.choice(list(judge.core()) + [1]), witness, {})
    if word == "order":
        if rng.random() < 0.6:
            thing = by_weights(many, tuple((rng.randint(1, 2), v * rng.choice((1, -1))) for v in range(1, many + 1)))
            return (word, thing, papers_by_sums(many, thing))
        thing = some_order(rng, many, rng.randint(0, min(2, many)), 2)
        told = soundness(many, thing)
        return (word, thing, told[1] if told[0] == "sound" and rng.random() < 0.5 else {})
    step = (word, row, witness, {})
    return (word, row, witness, papers_for(judge, step, rng.choice((0, 0, 0.5, 1)), rng))


class WalkTest(Case):
    """Logs by chance: the judge says what the plain words say, and M1, M2 and M3 hold."""

    def test_chance(self):
        words, more = {}, {"witness": 0, "dominate": 0}
        for _ in range(150):
            problem = some_problem(self.rng)
            judge, told = Judge(problem), Told(problem)
            log = []
            thing = lexicographic(problem.many, helper.some_literals(self.rng, problem.many, problem.many))
            begin = [("order", thing, papers_by_sums(problem.many, thing))] * self.rng.randint(0, 1)
            for k in range(30):
                step = begin[0] if k == 0 and begin else some_step(self.rng, judge)
                before, rows = state(judge), list(judge.known().values())
                if told.takes(step):
                    judge.step(step)
                    log.append(step)
                    words[step[0], len(step)] = words.get((step[0], len(step)), 0) + 1
                    self.assertTrue(kept(judge), (problem.rows, problem.price, log))
                    if step[0] in more:
                        more[step[0]] += not all(helper.holds(step[1], at) for at in helper.where(judge.many, rows))
                else:
                    self.refuses(BadStep, judge.step, step)
                    self.same(state(judge), before)
                self.same(state(judge), told.state())
                self.same(judge.known(), told.known())
                self.same(len(judge), len(log))
            self.assertEqual(judged(problem, log), judge)
            self.same(is_log(problem, log), True)
        self.assertEqual(len(words), 11)
        self.assertGreater(min(words.values()), 10, words)
        self.assertGreater(min(more.values()), 10, more)

    def test_steps_a_little_wrong(self):
        refused = {}
        for _ in range(60):
            problem = some_problem(self.rng, 3)
            judge, told = Judge(problem), Told(problem)
            for _ in range(15):
                step = some_step(self.rng, judge)
                if told.takes(step):
                    before = Told(problem)
                    before.__dict__.update({name: copy.copy(value) for name, value in state_of(judge).items()})
                    others = helper.variants(step)
                    for other in self.rng.sample(others, min(12, len(others))):
                        mine, wanted = judge.copy(), copy.deepcopy(before)
                        if wanted.takes(other):
                            mine.step(other)
                        else:
                            self.refuses(BadStep, mine.step, other)
                            refused[step[0]] = refused.get(step[0], 0) + 1
                        self.same(state(mine), wanted.state())
                    judge.step(step)
        self.assertEqual(len(refused), 10, refused)


def state_of(judge):
    """The attributes of a Told that stands as judge does."""
    return {"many": judge.many, "best": judge.best, "core": judge.core(), "derived": judge.derived(),
            "order": judge.order(), "left": list(left(judge)), "next": judge.next_id}


class JudgeTest(Case):
    def test_begin(self):
        problem = Problem(2, [(((1, 1),), 1), (((1, 2),), 1)], (((3, 1),), 4))
        judge = Judge(problem=problem)
        self.assertEqual(judge.problem, problem)
        self.same((judge.many, judge.best, judge.core(), judge.derived(), judge.known(), judge.order(), judge.log()),
                  (2, None, {1: problem.rows[0], 2: problem.rows[1]}, {}, {1: problem.rows[0], 2: problem.rows[1]},
                   ((), ()), []))
        self.same(len(judge), 0)
        for thing in (None, 0, [], {}, judge, (2, [], ((), 0))):
            self.refuses(BadProblem, Judge, thing)

    def test_by_hand(self):
        judge = Judge(HAND)
        for step in (ORDER, DOMINATE):
            self.assertIsNone(judge.step(step=step))
        self.same(judge.known(), {1: HAND.rows[0], 2: LESS})
        self.same(helper.where(2, judge.known().values()), [(0, 1), (1, 1)])
        self.same(judge.log(), [ORDER, DOMINATE])
        # No paper is needed for the strict goal, but one may be there.
        judge.step(("leave", 2))
        judge.step(DOMINATE[:3] + ({("strict",): STRICT_PAPER},))
        self.same(judge.derived(), {3: LESS})

    def test_derived_rows_are_no_goals_of_dominance(self):
        thing = lexicographic(3, [1, 2, 3])
        judge = Judge(Problem(3, [(((1, 1), (1, 2), (1, 3)), 1)], ((), 0)))
        judge.step(("order", thing, papers_by_sums(3, thing)))
        judge.step(("dominate", LESS, (2, 1, 3), {}))
        second = ("dominate", (((1, -2), (1, 3)), 1), (1, 3, 2), {})
        other = judge.copy()
        judge.step(second)
        self.same(helper.where(3, judge.known().values()), [(0, 0, 1), (0, 1, 1), (1, 1, 1)])
        self.refuses(BadStep, other.step, ("witness",) + second[1:])
        other.step(("core", (2,)))
        self.refuses(BadStep, other.step, second)
        self.refuses(BadStep, judge.step, second[:3] + ({("row", 2): [("row", 2)]},))

    def test_strict_is_asked_for(self):
        judge = Judge(HAND)
        self.refuses(BadStep, judge.step, DOMINATE)
        judge.step(ORDER)
        more = (((1, 1), (1, -2)), 1)
        self.refuses(BadStep, judge.step, ("dominate", more, (2, 1), {}))
        self.refuses(BadStep, judge.step, ("dominate", LESS, (1, 2), {}))
        for papers in (None, [], (), {("strict",): None}, {("strict",): []}, {("strict",): [("row", -1)]},
                       {("strict",): [("row", -2)]}, {("strict", 0): STRICT_PAPER}, {"strict": STRICT_PAPER},
                       {("own",): STRICT_PAPER}, {("order", 1): STRICT_PAPER}, {("row", 0): STRICT_PAPER}):
            self.refuses(BadStep, judge.step, DOMINATE[:3] + (papers,))
        self.same(judge.log(), [ORDER])

    def test_two_strict_rows(self):
        # No later by two rows; the second one is the strict one, named -4.
        thing = ((1, 2), ((((1, -1), (1, -2), (1, 3), (1, 4)), 2), (((2, -1), (1, -2), (2, 3), (1, 4)), 3)))
        judge = Judge(HAND)
        judge.step(("order", thing, papers_by_sums(2, thing)))
        for name, word in ((-3, False), (-4, True), (-5, False), (-2, False), (0, False)):
            step = DOMINATE[:3] + ({("strict",): (("row", -1), ("row", name), ("sum",))},)
            self.same(judge.copy().reads(step), word)

    def test_papers_of_orders_are_over_three_times_as_many_variables(self):
        judge = Judge(Problem(6, [], ((), 0)))
        sums = ORDER[2][("along", 0)]
        for l, word in ((6, True), (-6, True), (7, False), (-7, False), (8, False)):
            step = ("order", LEX, {("along", 0): sums + (("literal", l), ("capped",), ("sum",))})
            self.same(judge.copy().reads(step), word)

    def test_core_rows_alone_in_leave(self):
        rows = [(((1, 1),), 1), (((1, 1), (1, 2)), 1)]
        judge = Judge(Problem(2, rows, ((), 0)))
        judge.step(("follow", (((1, 1), (1, 2)), 1)))
        # The derived row does not help: with it alone the row 2 would be covered.
        self.refuses(BadStep, judge.step, ("leave", 1, (1, 2), {}))
        judge.step(("leave", 2, (1, 2), {}))
        self.same((judge.core(), judge.derived(), left(judge)),
                  ({1: rows[0]}, {3: rows[1]}, ((rows[1], (1, 2)),)))
        self.refuses(BadStep, judge.step, ("leave", 3, (1, 2), {}))
        self.refuses(BadStep, judge.step, ("leave", 1))
        self.refuses(BadStep, judge.step, ("leave", 1, (1, 2), {}))
        judge.step(("leave", 1, ("yes", 2), {}))
        judge.step(("leave", 3))
        self.same((judge.known(), judge.next_id), ({}, 4))
        other = Judge(Problem(2, rows[1:], ((), 0)))
        other.step(("derive", [("row", 1)]))
        self.refuses(BadStep, other.step, ("leave", 1, (1, 2), {}))

    def test_price(self):
        problem = Problem(2, [(((1, 1), (1, 2)), 1)], (((2, 1), (5, -2)), 3))
        judge = Judge(problem)
        self.refuses(BadStep, judge.step, ("plan", (0, 0)))
        judge.step(("plan", (1, 0)))
        self.same((judge.best, judge.known()[0]), (10, (((2, -1), (5, 2)), 1)))
        self.refuses(BadStep, judge.step, ("plan", (1, 0)))
        judge.step(("plan", (1, 1)))
        judge.step(("plan", (0, 1)))
        self.same((judge.best, judge.known()), (3, {0: (((2, -1), (5, 2)), 8), 1: problem.rows[0]}))
        judge.step(("derive", (("row", 0),)))
        for wrong in ([0, 1], (0, True), (0, 1, 0), (0,), None, {}):
            self.refuses(BadStep, judge.step, ("plan", wrong))

    def test_new(self):
        judge = Judge(Problem(199, [], ((), 0)))
        judge.step(("new",))
        self.same(judge.many, 200)
        self.refuses(BadStep, judge.step, ("new",))
        judge = Judge(HAND)
        self.refuses(BadStep, judge.step, ("derive", [("literal", 3)]))
        self.refuses(BadStep, judge.step, ("witness", (((1, 3),), 1), (1, 2, "yes"), {}))
        judge.step(("new",))
        judge.step(("witness", (((1, 3),), 1), (1, 2, "yes"), {}))
        judge.step(("derive", [("literal", 3)]))
        self.refuses(BadStep, judge.step, ("witness", (((1, 3),), 1), (1, "yes"), {}))
        self.refuses(BadStep, judge.step, ("plan", (0, 1, 1)))
        judge.step(("plan", (0, 1)))
        judge.step(("core", (2,)))
        self.same((judge.many, judge.core()[2]), (3, (((1, 3),), 1)))
        judge.step(("leave", 3))
        thing = lexicographic(3, (3, 1))
        judge.step(("order", thing, papers_by_sums(3, thing)))
        self.same(judge.order(), thing)

    def test_orders(self):
        judge = Judge(HAND)
        judge.step(("derive", [("row", 1)]))
        self.refuses(BadStep, judge.step, ORDER)
        judge.step(("leave", 2))
        judge.step(ORDER)
        sums = ORDER[2][("along", 0)]
        for papers in (None, [], {("same", 0): sums}, {("along", 1): sums}, {("along", False): sums},
                       {("along", 0): sums[:2]}, {("along", 0): sums, ("own",): sums}, {"along": sums}):
            self.refuses(BadStep, judge.step, ("order", LEX, papers))
        for thing in (None, [], (LEX[0],), ((3,), ()), ((1,), ((((1, 1),), 1),)), (list(LEX[0]), LEX[1]),
                      ((1, -2), ((((1, 1),), 1),))):
            self.refuses(BadStep, judge.step, ("order", thing, {}))
        # What is no later than itself, but does not lead on.
        near = ((1, 2), ((((2, -1), (1, -2), (2, 3), (1, 4)), 2), (((2, 1), (1, 2), (2, -3), (1, -4)), 2)))
        self.refuses(BadStep, judge.step, ("order", near, {}))
        judge.step(("order", ((), ()), {}))
        judge.step(("order", ((2,), ()), {}))
        self.same(judge.order(), ((2,), ()))

    def test_log_is_kept(self):
        judge = Judge(Problem(2, [(((1, 1), (1, 2)), 1), (((1, 1),), 0)], ((), 0)))
        told = [("row", 1)]
        judge.step(("derive", told))
        refuted = [("row", 3), ("row", -1), ("sum",)]
        papers = {key: paper_for(2, {**judge.known(), -1: (((1, -1), (1, -2)), 2)},
                                 {-2: (((1, -1), (1, -2)), 2)}) for key in (("row", 3), ("row", 1), ("own",))}
        step = ("witness", (((1, 1), (1, 2)), 1), (1, 2), papers)
        judge.step(("refute", (((1, 1), (1, 2)), 1), refuted))
        judge.step(step)
        wanted = [("derive", [("row", 1)]), ("refute", (((1, 1), (1, 2)), 1), list(refuted)),
                  step[:3] + ({key: list(papers[key]) for key in sorted(papers)},)]
        self.same(judge.log(), wanted)
        told.clear()
        refuted.clear()
        papers[("own",)].clear()
        papers.clear()
        self.same(judge.log(), wanted)
        found = judge.log()
        found[0][1].clear()
        found[2][3].clear()
        found.clear()
        self.same(judge.log(), wanted)
        self.same(judged(judge.problem, judge.log()).log(), wanted)

    def test_what_is_told_is_new(self):
        judge = Judge(HAND)
        judge.step(("derive", (("row", 1),)))
        judge.core().clear()
        judge.derived().clear()
        judge.known().clear()
        self.same((judge.core(), judge.derived(), judge.known()),
                  ({1: HAND.rows[0]}, {2: HAND.rows[0]}, {1: HAND.rows[0], 2: HAND.rows[0]}))

    def test_core(self):
        judge = Judge(HAND)
        for _ in range(3):
            judge.step(("derive", [("row", 1)]))
        for ids in (None, [2], (), (1,), (2, 2), (3, 2), (True,), (2, 9), (0,), 2, ("2",), ((2,),), ([2],),
                    (None,), {2: 3}):
            self.refuses(BadStep, judge.step, ("core", ids))
        judge.step(("core", (3,)))
        judge.step(("core", (2, 4)))
        self.same((list(judge.core()), judge.derived(), list(judge.known())), ([1, 2, 3, 4], {}, [1, 2, 3, 4]))
        self.refuses(BadStep, judge.step, ("core", (2,)))
        self.refuses(BadStep, judge.step, ("leave", 2))
        judge.step(("derive", [("row", 3)]))
        self.same(list(judge.derived()), [5])

    def test_any_value(self):
        judge = Judge(HAND)
        judge.step(ORDER)
        judge.step(("derive", [("row", 1)]))
        before = state(judge)
        values = helper.odd_values()
        for thing in values:
            self.refuses(BadStep, judge.step, thing)
        for word in ("derive", "follow", "refute", "plan", "new", "core", "leave", "witness", "dominate", "order",
                     "other", None, 1, ("derive",)):
            for thing in values:
                for step in ((word, thing), [word, thing], (word, LESS, thing), (word, 2, thing), (word, LEX, thing),
                             (word, LESS, (2, 1), thing), (word, LESS, thing, {}), (word, thing, (2, 1), {}),
                             (word, thing, {}), (word, 1, thing, {}), (word, 1, (1, 2), thing), (word,) + (thing,) * 4):
                    other, told = judge.copy(), Told(HAND)
                    told.__dict__.update(state_of(judge))
                    if told.takes(step):
                        other.step(step)
                    else:
                        self.refuses(BadStep, other.step, step)
                    self.same(state(other), told.state())
        self.same(state(judge), before)

    def test_copy_and_equality(self):
        judge = Judge(HAND)
        for step in (ORDER, DOMINATE, ("plan", (0, 1)), ("new",)):
            other = judge.copy()
            self.assertTrue(judge == other and not judge != other)
            self.same(other.log(), judge.log())
            judge.step(step)
            self.assertTrue(judge != other)
            self.same(len(other), len(judge) - 1)
            other.step(step)
            self.assertTrue(judge == other)
        other.step(("core", (2,)))
        self.same((list(judge.core()), list(other.core())), ([1], [1, 2]))
        for thing in (None, 0, HAND, [], "judge", judge.log(), object()):
            self.assertFalse(judge == thing)
            self.assertTrue(judge != thing)
        self.assertTrue(Judge(HAND) == Judge(Problem(2, HAND.rows, ((), 0))))
        self.assertFalse(Judge(HAND) == Judge(Problem(2, HAND.rows, ((), 1))))
        self.assertFalse(Judge(HAND) == Judge(Problem(2, [], ((), 0))))

    def test_equality_by_each_part(self):
        def behind(*steps):
            return judged(Problem(2, [(((1, 1),), 1), (((1, 1), (1, 2)), 1)], ((), 0)), list(steps))

        derive, other = ("derive", [("row", 1)]), ("derive", [("row", 2)])
        out, back = ("leave", 3), ("leave", 2, (1, 2), {})
        self.assertTrue(behind(derive, out) != behind())
        self.assertTrue(behind(derive, out) == behind(other, out))
        self.assertTrue(behind(derive) != behind(other))
        self.assertTrue(behind(derive) != behind(derive, ("core", (3,))))
        self.assertTrue(behind(back) != behind())
        self.assertTrue(behind(back) != behind(("leave", 2, (1, "yes"), {})))
        self.assertTrue(behind(("order", ((1,), ()), {})) != behind(("order", ((2,), ()), {})))
        two = (derive, other)
        self.assertTrue(behind(*two, ("core", (3,)), ("leave", 4)) != behind(*two, ("core", (4,)), ("leave", 3)))
        # What has left the core counts, even where a row like it came back.
        again = (("derive", [("row", 1), ("literal", 2), ("sum",)]), ("core", (3,)))
        self.assertTrue(behind(*again) == behind(*again))
        self.assertTrue(behind(*again, back, derive, out[:1] + (4,)) != behind(*again, derive, out[:1] + (4,)))

    def test_judged(self):
        log = [ORDER, DOMINATE]
        judge = judged(problem=HAND, log=log)
        self.same(judge.known(), {1: HAND.rows[0], 2: LESS})
        self.assertEqual(judged(HAND, tuple(log)), judge)
        self.assertEqual(judged(HAND, []), Judge(HAND))
        for thing in (None, 0, {}, "", judge, HAND):
            self.refuses(BadLog, judged, HAND, thing, index=0)
            self.same(is_log(HAND, thing), False)
        for wrong in (None, [], ("leave", 7), list(ORDER), ORDER):
            self.refuses(BadLog, judged, HAND, log + [wrong, wrong], index=2)
            self.refuses(BadLog, judged, HAND, [wrong, None] if wrong != ORDER else [None], index=0)
            self.same(is_log(problem=HAND, thing=log + [wrong]), False)
        self.same(is_log(HAND, log), True)
        self.same(is_log(HAND, tuple(log)), True)
        self.same(is_log(HAND, []), True)
        for problem in (None, 0, [], judge):
            self.refuses(BadProblem, judged, problem, None)
            self.refuses(BadProblem, is_log, problem, None)
        for thing in helper.odd_values():
            self.same(is_log(HAND, thing), thing in ([], ()) and type(thing) in (list, tuple))

    def test_great_numbers(self):
        great = 10 ** 29
        row = (((great, 1), (great + 1, 2), (great - 1, 3)), 2 * great)
        problem = Problem(3, [row], (((great, 1), (2, 2)), -great))
        judge = Judge(problem)
        judge.step(("plan", (1, 1, 0)))
        judge.step(("follow", (((1, 1), (1, 2)), 1)))
        judge.step(("refute", (((1, 1), (1, 2)), 1), [("row", 2), ("row", -1), ("sum",)]))
        self.same(judge.known()[0], (((great, -1), (2, -2)), 1))
        self.assertTrue(kept(judge))

