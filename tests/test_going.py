from tests import helper
from tests.helper import Case
from tests.test_judge import DOMINATE, HAND, ORDER, kept, price_at, some_problem
from tests.test_least import BAD_WAYS, LeastCase, right_least, some_ways
from tests.test_likenesses import NO_PROBLEMS, alike_problem
from tests.test_meaning import EMPTY, told_floor, walked
from tests.test_plainly import log_of_every_kind, right_plain, told_steps
from tests.test_redundance import clause_problem
from tests.test_seeking import some_guide, tight_problem
from tests.test_texts import tuples
from witnesslog.choice import choice, choice_log
from witnesslog.cores import guarded, guarded_log
from witnesslog.errors import (BadGuide, BadHands, BadLog, BadMost, BadProblem, BadWays, TooMany)
from witnesslog.firsts import likeness_steps
from witnesslog.going import go_on, go_some, relay
from witnesslog.judge import Judge, judged
from witnesslog.least import least
from witnesslog.lorries import lorries, lorry_log
from witnesslog.pigeons import pigeons
from witnesslog.plainly import plain
from witnesslog.problems import Problem
from witnesslog.texts import begun, log_of, log_text, problem_of, problem_text

GREAT = Problem(2, HAND.rows, (((10 ** 9, 1),), 0))
BAD_GUIDES = (None, {}, [0], "restart", [True], [201])
BAD_MOSTS = (None, 0, 10000, True, -1, "1", [1])
BAD_HANDS = (None, 0, {}, "", [None], [()], [[[], [], 1]], [([], [])], [([], [], 1, 1)], [([], [], 0)],
             [([], [], 10000)], [([], [], True)], [(["Above"], [], 1)], [([], [0], 1)], [([], [True], 1)],
             [(None, [], 1)],
             [([], None, 1)], [([], [], 1), None], [([], [], 1)] * 41, {1: ([], [], 1)})


def prices_of(problem):
    return [price_at(problem, at) for at in helper.where(problem.many, problem.rows)]


def some_hands(rng, many, most=4):
    count = rng.randint(0, most)
    return [(some_ways(rng), some_guide(rng, many, 8), rng.choice((1, 2, 5, 9999))) for _ in range(count)]


class GoingTest(LeastCase):
    def check(self, problem, log, ways, guide, prices):
        found = go_on(problem, log, ways, guide)
        self.check_least(problem, found, prices)
        self.same(found[-1][:len(log)], judged(problem, log).log())
        if prices:
            self.same(found[2], [step[1] for step in found[-1] if step[0] == "plan"][-1])
        judge = judged(problem, log)
        proved = any(helper.impossible(row) for row in judge.known().values())
        if proved or judge.best is not None and told_floor(judge) == judge.best:
            self.same(len(found[-1]), len(log))
        return found

    def test_by_hand(self):
        problem = Problem(2, HAND.rows, (((1, 1), (2, 2)), 0))
        word, price, at, log = go_on(problem, [("plan", (0, 1))], ["above"], [])
        self.same((word, price, at, log[0]), ("least", 1, (1, 0), ("plan", (0, 1))))
        self.same(go_on(problem=problem, log=log, ways=[], guide=[1]), (word, price, at, log))
        self.same(go_on(HAND, [ORDER, DOMINATE, ("plan", (0, 1))], [], []),
                  ("least", 0, (0, 1), [ORDER, DOMINATE, ("plan", (0, 1))]))
        none = Problem(1, [((), 1)], EMPTY)
        self.same(go_on(none, [("new",)], ["above"], []), ("none", [("new",)]))
        self.same(relay(problem=problem, hands=()), go_on(problem, [], [], []))

    def test_for_any_log(self):
        words = {}
        verdicts = []
        for _ in range(220):
            problem, log = log_of_every_kind(self.rng, words)
            prices = prices_of(problem)
            for at in {len(log), self.rng.randint(0, len(log)), self.rng.randint(0, len(log))}:
                guide = some_guide(self.rng, problem.many, 10)
                found = self.check(problem, log[:at], some_ways(self.rng), guide, prices)
                verdicts.append(found[0])
                for behind in (found[-1], log[:at]):
                    self.same(log_of(log_text(behind)), list(tuples(behind)))
                plainer = plain(problem, found[-1])
                self.assertTrue(right_plain(problem, plainer))
                self.same(log_of(log_text(plainer)), list(tuples(plainer)))
        self.same(len(words), 11)
        self.assertGreater(min(verdicts.count("least"), verdicts.count("none")), 40)

    def test_every_cut_of_walks(self):
        # Core rows that left, rows by dominance, orders, new variables: whatever was read, at every cut.
        gone, ordered = 0, 0
        for k in range(60):
            judge = walked(self.rng, 40, some_problem(self.rng, 3 + k % 2))
            problem, log, prices = judge.problem, judge.log(), prices_of(judge.problem)
            for at in range(len(log) + 1):
                found = self.check(problem, log[:at], [], [], prices)
                gone += bool(judged(problem, log[:at]).gone)
                ordered += judged(problem, log[:at]).order() != ((), ())
            for at in range(len(log), len(found[-1]) + 1):
                behind = judged(problem, found[-1][:at])
                self.assertTrue(behind.many > 7 or kept(behind))
        self.assertGreater(min(gone, ordered), 100)

    def test_every_cut_of_least(self):
        for _ in range(25):
            problem = tight_problem(self.rng, 5)
            prices = prices_of(problem)
            log = least(problem, some_ways(self.rng), some_guide(self.rng, problem.many, 10))[-1]
            text = log_text(log)
            for at in range(len(log) + 1):
                found = self.check(problem, log[:at], some_ways(self.rng, 2), [], prices)
                self.check_moments(problem, found[-1], prices)
            for at in range(0, len(text), 1 + len(text) // 20):
                log = begun(text[:at])
                self.check(problem_of(problem_text(problem)), log, [], [], prices)

    def test_behind_variables_that_were_eliminated(self):
        gone = 0
        for _ in range(80):
            judge = Judge(clause_problem(self.rng, self.rng.randint(2, 5), self.rng.randint(3, 9)))
            log, prices = [], prices_of(judge.problem)
            for _ in range(4):
                log += told_steps(self.rng, judge)
            found = self.check(judge.problem, log, some_ways(self.rng), some_guide(self.rng, 5, 6), prices)
            gone += len(judge.gone)
            self.assertTrue(right_least(judge.problem, found))
        self.assertGreater(gone, 100)

    def test_behind_preferences_and_likenesses(self):
        for _ in range(40):
            problem, exchanges = alike_problem(self.rng)
            log = likeness_steps(problem, exchanges)
            for at in range(len(log) + 1):
                self.check(problem, log[:at], some_ways(self.rng), [], prices_of(problem))
        problem, log = choice([1, 2, 4, 4, 7, 9], 3), choice_log([1, 2, 4, 4, 7, 9], 3)
        for at in range(len(log) + 1):
            for ways in ([], ["above"] * 20):
                self.same(self.check(problem, log[:at], ways, [-1, "restart"], prices_of(problem))[1], 7)
        problem, log = lorries([3, 2, 2], 3, 4), lorry_log([3, 2, 2], 3, 4)
        for at in range(len(log) + 1):
            self.same(self.check(problem, log[:at], [], [], prices_of(problem))[1], 7)
        problem, log = pigeons(3)
        for at in range(len(log) + 1):
            self.same(self.check(problem, log[:at], ["above"], [], [])[0], "none")

    def test_longer_families(self):
        prices = list(range(1, 61))
        problem, log = choice(prices, 30), choice_log(prices, 30)
        for at in (0, 1, 20, 60, 75, 91, len(log)):
            found = go_on(problem, log[:at], [], [])
            self.same((found[1], found[-1][:at]), (sum(prices[:30]), log[:at]))
        groups = [[1, 5, 3, 2]] * 6
        problem, log = guarded(groups), guarded_log(groups)
        for at in range(0, len(log) + 1, 5):
            self.same(go_on(problem, log[:at], ["above", "below"], [])[1], 36)

    def test_from_the_empty_log(self):
        for _ in range(60):
            problem = tight_problem(self.rng)
            ways, guide = some_ways(self.rng), some_guide(self.rng, problem.many)
            self.same(go_on(problem, (), tuple(ways), tuple(guide)), least(problem, ways, guide))

    def test_go_some(self):
        for _ in range(80):
            judge = walked(self.rng, self.rng.choice((0, 10, 20)), some_problem(self.rng))
            problem, log = judge.problem, judge.log()
            ways, guide = some_ways(self.rng), some_guide(self.rng, problem.many, 10)
            whole = go_on(problem, log, ways, guide)[-1]
            for most in (1, 2, 3, 7, 9999):
                found = go_some(problem, log, ways, guide, most)
                self.same(found, whole[:len(log) + most])
            self.same(go_some(problem=problem, log=log, ways=ways, guide=guide, most=1), whole[:len(log) + 1])

    def test_relay(self):
        verdicts = []
        for _ in range(120):
            problem = tight_problem(self.rng, 5) if self.rng.random() < 0.7 else some_problem(self.rng)
            hands = some_hands(self.rng, problem.many)
            log = []
            for ways, guide, most in hands:
                log = go_some(problem, log, ways, guide, most)
            found = relay(problem, hands)
            self.same(found, go_on(problem, log, [], []))
            self.check_least(problem, found, prices_of(problem))
            self.check_moments(problem, found[-1], prices_of(problem))
            self.same(relay(problem, tuple((tuple(ways), tuple(guide), most) for ways, guide, most in hands)), found)
            verdicts.append(found[0])
        self.assertGreater(min(verdicts.count("least"), verdicts.count("none")), 15)
        problem = tight_problem(self.rng, 5)
        hands = [(["above"], [("forget", 2)], 1)] * 40
        self.check_least(problem, relay(problem, hands), prices_of(problem))

    def test_errors(self):
        for thing in NO_PROBLEMS:
            self.refuses(BadProblem, go_on, thing, None, None, None)
            self.refuses(BadProblem, go_some, thing, None, None, None, None)
            self.refuses(BadProblem, relay, thing, None)
        for log, index in ((None, 0), ({}, 0), ("", 0), ([None], 0), ([("new",), ("leave", 1)], 1)):
            self.refuses(BadLog, go_on, GREAT, log, None, None, index=index)
            self.refuses(BadLog, go_some, GREAT, log, None, None, None, index=index)
        for ways in BAD_WAYS:
            self.refuses(BadWays, go_on, GREAT, [], ways, None)
            self.refuses(BadWays, go_some, GREAT, [], ways, None, None)
        for guide in BAD_GUIDES:
            self.refuses(BadGuide, go_on, GREAT, [], [], guide)
            self.refuses(BadGuide, go_some, GREAT, [], [], guide, None)
        for most in BAD_MOSTS:
            self.refuses(BadMost, go_some, GREAT, [], [], [], most)
        for hands in BAD_HANDS:
            self.refuses(BadHands, relay, GREAT, hands)
        self.refuses(TooMany, go_on, GREAT, [], [], [], most=999999999)
        with self.assertRaises(TooMany) as caught:
            go_some(GREAT, [], [], [], 1)
        self.same(caught.exception.most, 999999999)
        self.refuses(TooMany, relay, GREAT, [], most=999999999)

    def test_what_is_passed_stays(self):
        log = [("derive", [("row", 1)]), ("leave", 1, ("yes", 2), {("own",): [("row", -2)]})]
        before = repr(log)
        found = go_on(HAND, log, [], [])
        found[-1][0][1].clear()
        found[-1][1][3].clear()
        self.same(repr(log), before)
        self.same(repr(go_on(HAND, log, [], [])[-1][:2]), before)


class MainPromiseTest(Case):
    def test_what_is_left_out_never_changes_an_answer(self):
        # Steps by chance between the rounds of a search, judged, made plain, written down, and read again.
        for _ in range(40):
            problem = some_problem(self.rng)
            prices = prices_of(problem)
            log = []
            for _ in range(3):
                log = walked(self.rng, 8, problem, log).log()
                log = go_some(problem, log, some_ways(self.rng), some_guide(self.rng, problem.many, 5), 2)
                log = log_of(log_text(plain(problem, log)))
                self.assertTrue(judged(problem, log).many > 6 or kept(judged(problem, log)))
            found = go_on(problem, log, [], [])
            self.same(found[0], "least" if prices else "none")
            self.same(found[1] if prices else None, min(prices, default=None))
