from tests import helper
from tests.helper import Case
from tests.test_judge import DOMINATE, HAND, ORDER, price_at, some_problem, state
from tests.test_learning import learned_thing, loose_rows, wide
from tests.test_meaning import EMPTY, told_floor, walked
from witnesslog.back import led_back
from witnesslog.errors import (BadGuide, BadId, BadLiteral, BadLog, BadLot, BadMany, BadProblem, Clashes, Closed,
                               IsReason, NoClash, NotFree, NotWhole, WitnessError)
from witnesslog.guides import guide_to
from witnesslog.judge import Judge, judged
from witnesslog.learning import learned_row
from witnesslog.lorries import lorries
from witnesslog.pigeons import pigeons
from witnesslog.problems import Problem
from witnesslog.seeking import Search, clause, is_solved, is_solved_with, solve, solve_with

PAIR = Problem(2, [(((1, 1), (1, 2)), 1), (((1, 1), (1, -2)), 1)], (((1, 1),), 0))
WORDS = ("derive", "follow", "refute", "leave")
NO_PROBLEMS = (None, 0, [], {}, (2, [], EMPTY), "problem", True)


def told_trail(known, choices):
    """The trail along choices, in plain words: literals, the ids of their reasons, and that of the clash."""
    ids, rows = list(known), list(known.values())
    literals, reasons = [], []
    for choice in [None] + list(choices):
        if choice is not None:
            literals.append(choice)
            reasons.append(None)
        steps, clash = helper.followed(rows, literals)
        literals += [l for l, _ in steps]
        reasons += [ids[index] for _, index in steps]
        if clash is not None:
            return (tuple(literals), tuple(reasons), ids[clash])
    return (tuple(literals), tuple(reasons), None)


def denies(lot):
    """clause, in plain words."""
    return (tuple((1, -l) for l in sorted(lot, key=abs)), 1)


def judge_behind(problem, log):
    """The judge behind the steps, None if they are not let by, and the derived rows ahead of the last one."""
    judge, before = Judge(problem), {}
    for step in log:
        before = judge.derived()
        try:
            judge.step(step)
        except WitnessError:
            return None, before
    return judge, before


def are_of_search(log):
    return all(step[0] in WORDS and (step[0] != "leave" or len(step) == 2) for step in log)


def log_bars(problem, lot, log):
    """Whether log is one of a search by whose last step the row comes that denies lot, in plain words."""
    if type(log) not in (list, tuple):
        return False
    judge, before = judge_behind(problem, log)
    if judge is None or not are_of_search(log):
        return False
    return [row for k, row in judge.derived().items() if k not in before] == [denies(lot)]


def some_guide(rng, many, most=12):
    found = []
    for _ in range(rng.randint(0, most)):
        literal = rng.choice([l for l in range(-many - 1, many + 2) if l])
        found.append(rng.choice([literal, abs(literal), "restart", ("forget", rng.choice((1, 2, 999)))]))
    return found


def tight_problem(rng, most=6, least=1):
    """A problem of some more rows, of which many have no plan."""
    many = rng.randint(least, most)
    rows = loose_rows(rng, many, rng.randint(many, 2 * many + 2))
    if rng.random() < 0.2:
        rows = wide(rng, rows)
    return Problem(many, rows, (helper.some_row(rng, many, 5)[0], rng.randint(-4, 4)))


def clashing_problem(rng, many, count):
    """A problem of clauses of three literals, at which a search learns again and again."""
    rows = []
    for _ in range(count):
        literals = sorted(helper.some_literals(rng, many, 3), key=abs)
        rows.append((tuple((1, l) for l in literals), 1))
    return Problem(many, rows, (tuple((rng.randint(1, 3), v) for v in range(1, many + 1)), rng.randint(-9, 9)))


def shown(search):
    return repr((search.choices(), search.trail(), search.reasons(), search.clash(), search.known(), search.log(),
                 state(search.judge()), search.is_closed(), search.found()))


class SearchCase(Case):
    def check_search(self, search, choices, log):
        """All that search tells, held against the choices and the log that it should have."""
        judge = search.judge()
        self.same(search.log(), log)
        self.same(judge.log(), log)
        known = judge.known()
        literals, reasons, clash = told_trail(known, choices)
        self.same((search.choices(), search.trail(), search.reasons()), (tuple(choices), literals, reasons))
        self.same((search.clash(), search.known()), (clash, known))
        self.same(search.is_closed(), any(helper.impossible(row) for row in known.values()))
        whole = clash is None and len(literals) == judge.many
        found = tuple(int(v in literals) for v in range(1, judge.many + 1)) if whole else None
        self.same(search.found(), found)
        if whole:
            self.assertTrue(all(helper.holds(row, found) for row in known.values()))
        return judge, literals, reasons, clash

    def refuses_deed(self, search, error, attributes, deed, *passed):
        before = shown(search)
        with self.assertRaises(WitnessError) as caught:
            getattr(search, deed)(*passed)
        self.assertIs(type(caught.exception), error)
        self.same(vars(caught.exception), attributes)
        self.same(shown(search), before)


class SearchTest(SearchCase):
    def test_by_hand(self):
        search = Search(PAIR, [])
        self.check_search(search, [], [])
        self.same((search.choices(), search.trail(), search.reasons(), search.clash(), search.found()),
                  ((), (), (), None, None))
        self.same(search.choose(literal=-1), None)
        self.same((search.trail(), search.reasons(), search.clash()), ((-1, 2), (None, 1), 2))
        self.refuses_deed(search, Clashes, {"number": 2}, "choose", 2)
        self.refuses_deed(search, BadLiteral, {}, "choose", 3)
        self.refuses_deed(search, NotWhole, {}, "take")
        self.same(search.learn(), 3)
        self.same((search.known()[3], search.choices(), search.trail(), search.reasons(), search.clash()),
                  ((((1, 1),), 1), (), (1,), (3,), None))
        self.refuses_deed(search, NoClash, {}, "learn")
        self.refuses_deed(search, IsReason, {"number": 3}, "forget", 3)
        self.refuses_deed(search, NotFree, {"literal": -1}, "choose", -1)
        search.choose(2)
        self.same(search.found(), (1, 1))
        self.same(search.take(), (1, 1))
        # The price is 1, so that nothing below it is left.
        self.same((search.choices(), search.judge().best, search.is_closed()), ((), 1, False))
        self.same((search.trail(), search.reasons(), search.clash()), ((-1, 2), (0, 1), 2))
        self.same(search.learn() > 3, True)
        self.same((search.is_closed(), search.found()), (True, None))
        self.refuses_deed(search, Closed, {}, "learn")

    def test_errors_at_the_beginning(self):
        for thing in NO_PROBLEMS:
            self.refuses(BadProblem, Search, thing, None)
        for log, index in ((None, 0), ({}, 0), ("", 0), ([None], 0), ([("new",), ("leave", 1)], 1)):
            self.refuses(BadLog, Search, HAND, log, index=index)
        self.same(len(Search(problem=HAND, log=(("new",),)).judge()), 1)

    def test_values_that_are_no_literals_and_no_ids(self):
        search = Search(HAND, [("derive", [("row", 1)])])
        for thing in (None, 0, True, "1", 3, -3, [1], (1,), {}, 1 << 70):
            self.refuses_deed(search, BadLiteral, {}, "choose", thing)
        for thing in (None, 0, True, "2", 1, 3, -2, [2], (2,), {}):
            self.refuses_deed(search, BadId, {}, "forget", thing)
        search.forget(number=2)
        self.same(search.log(), [("derive", [("row", 1)]), ("leave", 2)])

    def test_drawn_deeds(self):
        counts = {}
        for k in range(320):
            problem, log = tight_problem(self.rng), []
            if k % 4 == 0:
                judge = walked(self.rng, self.rng.choice((0, 5, 20)), some_problem(self.rng))
                problem, log = judge.problem, judge.log()
            elif k % 4 == 1:
                problem = clashing_problem(self.rng, 7, self.rng.randint(15, 30))
            search = Search(problem, log)
            choices = []
            for _ in range(self.rng.randint(5, 25)):
                if self.deed(search, choices, log, counts) == "closed":
                    break
        self.assertGreater(min(counts.values()), 8, counts)
        self.same(sorted(counts), sorted(["choose", "clashes", "not free", "learn", "learn 0", "no clash", "closed",
                                          "forget", "is reason", "bad id", "restart", "take", "not whole"]))

    def deed(self, search, choices, log, counts):
        """One deed by chance, held against what it should do; choices and log are brought up to it."""
        judge, literals, reasons, clash = self.check_search(search, choices, log)
        word = self.rng.choice(["choose"] * 5 + ["learn"] * 5 + ["forget", "forget", "restart", "take"])
        if clash is not None and self.rng.random() < 0.6:
            word = "learn"
        kind = getattr(self, "deed_" + word)(search, choices, log, judge, literals, reasons, clash)
        counts[kind] = counts.get(kind, 0) + 1
        self.check_search(search, choices, log)
        return kind

    def deed_choose(self, search, choices, log, judge, literals, reasons, clash):
        l = self.rng.choice([l for l in range(-judge.many, judge.many + 1) if l])
        if clash is not None:
            self.refuses_deed(search, Clashes, {"number": clash}, "choose", l)
            return "clashes"
        if l in literals or -l in literals:
            self.refuses_deed(search, NotFree, {"literal": l}, "choose", l)
            return "not free"
        self.same(search.choose(l), None)
        choices.append(l)
        return "choose"

    def deed_learn(self, search, choices, log, judge, literals, reasons, clash):
        if clash is None:
            self.refuses_deed(search, NoClash, {}, "learn")
            return "no clash"
        if not choices and any(helper.impossible(row) for row in judge.known().values()):
            self.refuses_deed(search, Closed, {}, "learn")
            return "closed"
        ids = list(judge.known())
        k = search.learn()
        step = search.log()[-1]
        row = search.known()[k]
        self.same((k, step[0], len(step)), (judge.next_id, "derive", 2))
        told = [("row", ids.index(one[1])) if one[0] == "row" else one for one in step[1]]
        trail = tuple((l, None if reason is None else ids.index(reason)) for l, reason in zip(literals, reasons))
        level = len(search.choices())
        self.assertTrue(learned_thing(judge.many, list(judge.known().values()), trail, (row, told, level)))
        self.assertTrue(level < len(choices) or not choices and helper.impossible(row))
        self.assertTrue(not choices or search.clash() is not None or
                        self.counts(search.reasons()) > self.counts(reasons))
        kind = "learn" if choices else "learn 0"
        del choices[level:]
        log.append(step)
        return kind

    def counts(self, reasons):
        """How many literals there are on the trail ahead of the first choice, from there to the next one, and so on."""
        found = [0]
        for reason in reasons:
            if reason is None:
                found.append(0)
            found[-1] += 1
        return found

    def deed_forget(self, search, choices, log, judge, literals, reasons, clash):
        k = self.rng.choice(list(judge.derived()) * 3 + list(judge.known()) + [99])
        if k not in judge.derived():
            self.refuses_deed(search, BadId, {}, "forget", k)
            return "bad id"
        if k in reasons or k == clash:
            self.refuses_deed(search, IsReason, {"number": k}, "forget", k)
            return "is reason"
        self.same(search.forget(k), None)
        log.append(("leave", k))
        return "forget"

    def deed_restart(self, search, choices, log, judge, literals, reasons, clash):
        self.same(search.restart(), None)
        choices.clear()
        return "restart"

    def deed_take(self, search, choices, log, judge, literals, reasons, clash):
        found = search.found()
        if found is None:
            self.refuses_deed(search, NotWhole, {}, "take")
            return "not whole"
        plan = search.take()
        self.same(plan, led_back(judge, found))
        self.assertTrue(judge.best is None or price_at(judge.problem, plan) < judge.best)
        choices.clear()
        log.append(("plan", plan))
        return "take"

    def test_what_is_told_is_new(self):
        search = Search(PAIR, [("derive", [("row", 1)])])
        before = shown(search)
        search.known().clear()
        search.log().clear()
        search.log()[0][1].clear()
        search.judge().step(("new",))
        self.same(shown(search), before)
        log = [("derive", [("row", 1)])]
        search = Search(PAIR, log)
        log[0][1].clear()
        log.clear()
        self.same(shown(search), before)

    def test_take_behind_core_rows_that_left(self):
        log = [("new",), ("leave", 1, ("yes", 2, 3), {})]
        search = Search(HAND, log)
        for l in (-1, -2, 3):
            search.choose(l)
        self.same((search.found(), search.take()), ((0, 0, 1), (1, 0)))
        self.same(search.log(), log + [("plan", (1, 0))])

    def test_weights_that_are_too_great_to_be_added(self):
        # In rows of forty digits, sums of which cannot be put; clauses of them can.
        fallen_back = 0
        for k in range(60):
            problem = clashing_problem(self.rng, 4, 9)
            log = []
            for name, row in enumerate(problem.rows):
                literal = self.rng.choice(row[0])[1]
                log.append(("derive", [("row", name + 1), ("literal", literal), ("times", 6 * 10 ** 39), ("sum",)]))
            log.append(("core", tuple(range(10, 19))))
            log += [("leave", name + 1, (1, 2, 3, 4), {}) for name in range(9)]
            search = Search(problem, log)
            while not search.is_closed() and search.found() is None:
                if search.clash() is not None:
                    known = search.known()
                    trail = [(l, None if r is None else list(known).index(r))
                             for l, r in zip(search.trail(), search.reasons())]
                    word, _ = helper.end(4, dict(enumerate(known.values())),
                                         learned_row(list(known.values()), trail)[1])
                    fallen_back += word == "bad"
                    search.learn()
                else:
                    given = [abs(l) for l in search.trail()]
                    search.choose([-v for v in range(1, 5) if v not in given][0])
            below = helper.where(4, problem.rows)
            self.assertEqual(search.is_closed(), below == [])
        self.assertGreater(fallen_back, 2)


class SolveCase(SearchCase):
    def check_log(self, problem, log, words=WORDS):
        self.assertIs(type(log), list)
        self.assertTrue({step[0] for step in log} <= set(words))
        self.assertTrue(all(step[0] != "leave" or len(step) == 2 for step in log))
        return judged(problem, log)

    def check_solved(self, problem, guide, plans):
        found = solve(problem, guide)
        self.same(is_solved(problem, found), True)
        if plans:
            word, plan, log = found
            self.same((word, plan in plans, log[-1]), ("plan", True, ("plan", plan)))
            self.check_log(problem, log[:-1])
            self.assertEqual(judged(problem, log).best, price_at(problem, plan))
        else:
            word, log = found
            self.same(word, "none")
            known = self.check_log(problem, log).known()
            self.assertTrue(any(helper.impossible(row) for row in known.values()))
        return found

    def right(self, problem, thing):
        """is_solved, in plain words."""
        if type(thing) is not tuple or len(thing) not in (2, 3) or thing[0] not in ("plan", "none"):
            return False
        log, end = thing[-1], []
        if type(log) not in (list, tuple):
            return False
        if thing[0] == "plan":
            if len(thing) != 3 or not helper.filling(problem.many, thing[1]) or not log:
                return False
            log, end = log[:-1], [log[-1]]
            if repr(end) != repr([("plan", thing[1])]):
                return False
        elif len(thing) != 2:
            return False
        judge, _ = judge_behind(problem, list(log) + end)
        if judge is None or not are_of_search(log):
            return False
        return thing[0] == "plan" or any(helper.impossible(row) for row in judge.known().values())

    def told_wishes(self, problem, guide, assumed=()):
        """The way of a search, in plain words, by the deeds of Search: the search, and how it ends."""
        search, wishes, learned = Search(problem, []), list(guide), []
        while True:
            trail = search.trail()
            if search.clash() is not None:
                if all(l in assumed for l in search.choices()):
                    return search, "clash"
                learned.append(search.learn())
                continue
            ahead = [l for l in assumed if l not in trail]
            if ahead and -ahead[0] in trail:
                return search, "clash"
            if ahead:
                search.choose(ahead[0])
            elif search.found() is not None:
                return search, "found"
            elif not wishes:
                search.choose([-v for v in range(1, problem.many + 1) if v not in trail and -v not in trail][0])
            else:
                self.carry_out(search, wishes.pop(0), learned)

    def carry_out(self, search, wish, learned):
        if wish == "restart":
            search.restart()
        elif type(wish) is int:
            trail = search.trail()
            if abs(wish) <= search.judge().problem.many and wish not in trail and -wish not in trail:
                search.choose(wish)
        else:
            gone = 0
            for k in list(learned):
                judge = search.judge()
                low = told_floor(judge)
                judge.step(("leave", k))
                if gone < wish[1] and k not in search.reasons() and told_floor(judge) == low:
                    search.forget(k)
                    learned.remove(k)
                    gone += 1


class SolveTest(SolveCase):
    def test_for_any_guide(self):
        verdicts = []
        for _ in range(250):
            problem = tight_problem(self.rng)
            plans = helper.where(problem.many, problem.rows)
            for guide in ([], some_guide(self.rng, problem.many), some_guide(self.rng, problem.many, 60)):
                verdicts.append(self.check_solved(problem, guide, plans)[0])
            for plan in plans[:3]:
                told = solve(problem, guide_to(problem, plan))
                self.same(told, ("plan", plan, [("plan", plan)]))
        self.assertGreater(min(verdicts.count("plan"), verdicts.count("none")), 100)

    def test_wishes_are_carried_out_as_told(self):
        forgotten, kept = 0, 0
        for k in range(80):
            problem = clashing_problem(self.rng, 12, 50) if k % 2 else tight_problem(self.rng, 9, 5)
            guide = some_guide(self.rng, problem.many, 40)
            search, end = self.told_wishes(problem, guide)
            found = solve(problem, guide)
            if end == "clash" and not search.is_closed():
                search.learn()
            if end == "found":
                search.take()
            self.same(found[-1], search.log())
            forgotten += sum(step[0] == "leave" for step in found[-1])
            kept += found[0] == "plan"
        self.assertGreater(min(forgotten, kept), 25)

    def test_forgetting_keeps_the_floor(self):
        # What is learned says that the price is 1 at least, so it is not forgotten.
        problem = Problem(3, PAIR.rows + ((((1, 2), (1, 3)), 1),), PAIR.price)
        guide = [-1, -2, ("forget", 5), "restart", ("forget", 5)]
        word, plan, log = solve(problem, guide)
        self.same((word, [step[0] for step in log]), ("plan", ["derive", "plan"]))
        # Without a price it is a reason, so it is not forgotten either.
        word, plan, log = solve(Problem(3, problem.rows, EMPTY), guide)
        self.same((word, [step[0] for step in log]), ("plan", ["derive", "plan"]))
        # Rows learned above the first level are no reasons behind a restart.
        rows = [(((1, 1), (1, 2), (1, 3)), 1), (((1, 1), (1, 2), (1, -3)), 1)]
        word, plan, log = solve(Problem(3, rows, EMPTY), [-1, -2, ("forget", 5), "restart", ("forget", 5), 1])
        self.same((word, plan, [step[0] for step in log]), ("plan", (1, 0, 0), ["derive", "leave", "plan"]))

    def test_wishes_that_do_nothing(self):
        problem = Problem(2, [(((1, 1),), 1)], EMPTY)
        guide = (-1, 1, 3, -200, 200, "restart", ("forget", 999), ("forget", 1), 2, -2)
        self.same(solve(problem, guide), ("plan", (1, 1), [("plan", (1, 1))]))
        self.same(solve(problem=problem, guide=list(guide[:8])), ("plan", (1, 0), [("plan", (1, 0))]))

    def test_closed_from_the_beginning(self):
        problem = Problem(2, [((), 1)], EMPTY)
        self.same(solve(problem, [1]), ("none", []))
        self.same(is_solved(problem, ("none", [])), True)
        problem = Problem(1, [(((1, 1),), 1), (((1, -1),), 1)], EMPTY)
        word, log = solve(problem, [])
        self.same((word, len(log), is_solved(problem, ("none", log)), is_solved(problem, ("none", []))),
                  ("none", 1, True, False))

    def test_families(self):
        for holes in range(1, 6):
            problem, _ = pigeons(holes)
            self.same(is_solved(problem, solve(problem, [])), True)
        problem = lorries([5, 4, 3, 3, 3], 2, 9)
        self.same(solve(problem, [])[0], "plan")
        problem = lorries([5, 4, 3, 3, 3], 2, 8)
        self.same(solve(problem, [1, "restart", ("forget", 9)])[0], "none")

    def test_each_wrong_part(self):
        for problem, guide in ((PAIR, []), (Problem(3, PAIR.rows, (((2, 3),), 0)), [-1, -2, -3]),
                               (Problem(2, PAIR.rows + ((((2, -1),), 1),), EMPTY), [-2])):
            found = solve(problem, guide)
            self.assertTrue(is_solved(problem, found))
            self.assertTrue(is_solved(problem, found[:-1] + (tuple(found[-1]),)))
            for thing in helper.variants(found):
                self.same(is_solved(problem, thing), self.right(problem, thing), thing)

    def test_other_steps_are_not_of_a_search(self):
        problem = Problem(2, [(((1, 1), (1, 2)), 1), (((1, -1),), 1), (((1, -2),), 1), (((1, -2),), 1)], EMPTY)
        last = ("follow", ((), 1))
        for step in (("new",), ("witness", (((1, 1),), 0), (1, 2), {}), ("leave", 4, (1, 2), {}), ("core", (5,)),
                     ("order", ((), ()), {})):
            # An order comes only where there are no derived rows.
            log = [("leave", 5) if step[0] == "order" else ("derive", [("row", 1)]), step, last]
            log = [("derive", [("row", 1)])] * (step[0] == "order") + log
            self.same((len(judged(problem, log)) > 2, is_solved(problem, ("none", log[:-2] + log[-1:]))), (True, True))
            self.same(is_solved(problem, ("none", log)), False, step)
        other = Problem(2, [(((1, 1), (1, 2)), 1)], EMPTY)
        for log in ([("plan", (1, 0))], [("follow", (((1, 1), (1, 2)), 1)), ("plan", (1, 0))]):
            self.same(is_solved(other, ("plan", (1, 0), log)), True)
            self.same(is_solved(other, ("plan", (0, 1), log)), False)
            self.same(is_solved(other, ("plan", (1, 0), [("new",)] + log)), False)
        priced = Problem(2, other.rows, (((1, 1),), 0))
        self.same(is_solved(priced, ("plan", (0, 1), [("plan", (1, 0)), ("plan", (0, 1))])), False)
        self.same(is_solved(priced, ("plan", (0, 1), [("plan", (0, 1)), ("leave", 1)])), False)

    def test_any_value(self):
        for thing in helper.odd_values():
            self.same((is_solved(HAND, thing), is_solved_with(HAND, (1,), thing)), (False, False))
            for word in ("plan", "none", "barred"):
                for made in ((word, thing), (word, thing, []), (word, (1, 0), thing), (word, (1, 0), [thing])):
                    self.same(is_solved(HAND, made), False)
                    self.same(is_solved_with(HAND, (1,), made), False)

    def test_errors(self):
        for thing in NO_PROBLEMS:
            self.refuses(BadProblem, solve, thing, None)
            self.refuses(BadProblem, is_solved, thing, None)
            self.refuses(BadProblem, solve_with, thing, None, None)
            self.refuses(BadProblem, is_solved_with, thing, None, None)
        for guide in (None, {}, 1, "restart", [0], [True], [201], [("forget", 0)], ["Restart"], [1] * 401):
            self.refuses(BadGuide, solve, HAND, guide)
            self.refuses(BadGuide, solve_with, HAND, (), guide)


class SolveWithTest(SolveCase):
    def check_with(self, problem, assumed, guide, plans):
        found = solve_with(problem, assumed, guide)
        self.same(is_solved_with(problem, assumed, found), True)
        right = [plan for plan in plans if all(helper.worth(l, plan) == 1 for l in assumed)]
        word, thing, log = found
        if right:
            self.same((word, thing in right, log[-1]), ("plan", True, ("plan", thing)))
            self.check_log(problem, log[:-1])
        else:
            self.same(word, "barred")
            self.assertIs(type(thing), tuple)
            self.same([l for l in assumed if l in thing], list(thing))
            self.assertFalse(any(all(helper.worth(l, plan) == 1 for l in thing) for plan in plans))
            judge = self.check_log(problem, log)
            before = judged(problem, log[:-1])
            self.same([row for k, row in judge.derived().items() if k not in before.derived()], [denies(thing)])
        return found

    def test_by_hand(self):
        problem = Problem(2, [(((1, 1), (1, 2)), 1)], EMPTY)
        word, lot, log = solve_with(problem, (-1, -2), [])
        self.same((word, lot), ("barred", (-1, -2)))
        self.same(is_solved_with(problem, (-1, -2), ("barred", (-1, -2), [("follow", (((1, 1), (1, 2)), 1))])), True)
        self.same(solve_with(problem=problem, assumed=(-1,), guide=[1]), ("plan", (0, 1), [("plan", (0, 1))]))

    def test_for_any_guide_and_any_assumed(self):
        words = []
        for _ in range(220):
            problem = tight_problem(self.rng)
            plans = helper.where(problem.many, problem.rows)
            for _ in range(3):
                assumed = tuple(helper.some_literals(self.rng, problem.many))
                guide = some_guide(self.rng, problem.many, 20)
                words.append(self.check_with(problem, assumed, guide, plans)[0])
        self.assertGreater(min(words.count("plan"), words.count("barred")), 100)

    def test_the_assumed_come_first(self):
        barred = 0
        for _ in range(150):
            problem = tight_problem(self.rng, 7, 3)
            assumed = tuple(helper.some_literals(self.rng, problem.many, self.rng.randint(0, 2)))
            guide = some_guide(self.rng, problem.many, 30)
            search, end = self.told_wishes(problem, guide, assumed)
            word, thing, log = solve_with(problem, assumed, guide)
            if end == "found":
                search.take()
            else:
                search = Search(problem, search.log() + [("follow", denies(thing))])
                barred += 1
            self.same((word, log), ("plan" if end == "found" else "barred", search.log()))
        self.assertGreater(barred, 30)

    def test_edges(self):
        rows = [(((1, 1), (1, 2)), 1), (((1, 1), (1, -2)), 1)]
        problem = Problem(4, rows + rows, EMPTY)
        plans = helper.where(4, problem.rows)
        # Barred by itself, by what follows, by a clash, with literals that no row speaks of, and nothing assumed.
        for assumed, lot in (((-1,), (-1,)), ((3, -1, 4), (-1,)), ((-4, -2, -1), None), ((2, -1, -3), None),
                             ((3, -4), None), ((), None)):
            found = self.check_with(problem, assumed, [3, "restart", -4], plans)
            if lot is not None:
                self.same(found[1], lot)
        problem = Problem(3, [(((1, -1), (1, 2)), 1), (((1, -2), (1, 3)), 1)], EMPTY)
        self.same(self.check_with(problem, (1, -3), [], helper.where(3, problem.rows))[1], (1, -3))
        self.same(self.check_with(problem, (-3, 1), [], helper.where(3, problem.rows))[1], (-3, 1))
        for rows in ([((), 1)], [(((1, 1),), 1), (((1, -1),), 1)]):
            problem = Problem(2, rows, EMPTY)
            word, lot, log = self.check_with(problem, (2,), [], [])
            self.same((lot, judged(problem, log).derived()[len(rows) + len(log)]), ((), ((), 1)))

    def test_no_plan_found_behind_clauses_only(self):
        # Nothing follows by itself, and yet there is no plan with -1, so that (-1,) is barred behind learning.
        rows = [(((1, 1), (1, 2 * a), (1, 3 * b)), 1) for a in (1, -1) for b in (1, -1)]
        problem = Problem(3, rows, EMPTY)
        for guide in ([], [2, 3], [-3, "restart", ("forget", 1)]):
            word, lot, log = self.check_with(problem, (-1,), guide, helper.where(3, rows))
            self.same((word, lot, len(log) > 1), ("barred", (-1,), True))

    def test_each_wrong_part(self):
        problem = Problem(3, PAIR.rows, EMPTY)
        for assumed, guide in (((3, -1), []), ((1, -3), []), ((-2, -1), [])):
            found = solve_with(problem, assumed, guide)
            self.assertTrue(is_solved_with(problem, assumed, found))
            for thing in helper.variants(found):
                self.same(is_solved_with(problem, assumed, thing), self.right_with(problem, assumed, thing), thing)

    def right_with(self, problem, assumed, thing):
        """is_solved_with, in plain words."""
        if type(thing) is not tuple or len(thing) != 3:
            return False
        if type(thing[0]) is str and thing[0] == "plan":
            return self.right(problem, thing) and all(helper.worth(l, thing[1]) == 1 for l in assumed)
        word, lot, log = thing
        if type(word) is not str or word != "barred" or type(lot) is not tuple or type(log) not in (list, tuple):
            return False
        return repr(lot) == repr(tuple(l for l in assumed if l in lot)) and log_bars(problem, lot, log)

    def test_barred_tuples(self):
        problem = Problem(3, [(((1, 1), (1, 2)), 1)], EMPTY)
        step = ("follow", (((1, 1), (1, 2)), 1))
        assumed = (-2, 3, -1)
        for thing, right in ((("barred", (-2, -1), [step]), True), (("barred", (-1, -2), [step]), False),
                             (("barred", [-2, -1], [step]), False), (("barred", (-2, -1), (step, step)), True),
                             (("barred", (-2, -1), []), False), (("barred", (-2, -1), [step, ("leave", 2)]), False),
                             (("barred", (-2, 3, -1), [step]), False), (("barred", (-2, -1), [step, ("new",)]), False),
                             (("barred", (-2, -1), [("plan", (1, 1, 1)), step]), False),
                             (("barred", (-2, -1), [("derive", [("row", 1)])]), True),
                             (("barred", (-2, -1), [("refute", step[1], [("row", 1), ("row", -1), ("sum",)])]), True),
                             (("barred", (-2, -1), [("witness", step[1], (1, 2, 3), {})]), False)):
            self.same(is_solved_with(problem, assumed, thing), right, thing)

    def test_errors_of_assumed(self):
        for lot in (None, [], [1], (0,), (3,), (1, -1), (1, 1), (True,), ("1",), {}, 1):
            self.refuses(BadLot, solve_with, HAND, lot, None)
            self.refuses(BadLot, is_solved_with, HAND, lot, None)

    def test_clause(self):
        self.same(clause(3, ()), ((), 1))
        self.same(clause(many=5, lot=(-4, 1, 3)), (((1, -1), (1, -3), (1, 4)), 1))
        for _ in range(50):
            many = self.rng.randint(1, 9)
            lot = tuple(helper.some_literals(self.rng, many))
            self.same(clause(many, lot), denies(lot))
        self.same(clause(600, (600,)), (((1, -600),), 1))
        for many in (None, 0, 601, True, "3"):
            self.refuses(BadMany, clause, many, None)
        for lot in (None, [], [1], (0,), (4,), (1, -1), (2, 2), (True,), ("1",), {}):
            self.refuses(BadLot, clause, 3, lot)


class DominatedTest(SearchCase):
    def test_search_behind_rows_by_dominance(self):
        log = [ORDER, DOMINATE]
        search = Search(HAND, log)
        search.choose(1)
        self.same((search.trail(), search.reasons(), search.found()), ((1, 2), (None, 2), (1, 1)))
        search.restart()
        search.choose(-1)
        self.same((search.found(), search.take()), ((0, 1), (0, 1)))
        self.same((search.clash(), search.is_closed(), len(search.log())), (0, True, 3))

    def test_steps_of_every_kind(self):
        words = {}
        for _ in range(200):
            problem = some_problem(self.rng)
            judge = walked(self.rng, 25, problem)
            for step in judge.log():
                words[step[0], len(step)] = True
            search = Search(problem, judge.log())
            while not search.is_closed():
                if search.clash() is not None:
                    search.learn()
                elif search.found() is not None:
                    search.take()
                else:
                    given = [abs(l) for l in search.trail()]
                    free = [v for v in range(1, search.judge().many + 1) if v not in given]
                    search.choose(self.rng.choice(free) * self.rng.choice((1, -1)))
            prices = [price_at(problem, at) for at in helper.where(problem.many, problem.rows)]
            self.same(search.judge().best, min(prices, default=None))
        self.same(len(words), 11)


if __name__ == "__main__":
    import unittest
    unittest.main()
