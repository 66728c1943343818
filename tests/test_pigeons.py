from tests import helper
from tests.helper import Case
from witnesslog.errors import BadNumber
from witnesslog.judge import judged
from witnesslog.meaning import is_proved
from witnesslog.pigeons import pigeons
from witnesslog.problems import Problem


class PigeonsTest(Case):
    def test_by_hand(self):
        problem, log = pigeons(holes=1)
        self.assertEqual(problem, Problem(2, [(((1, 1),), 1), (((1, 2),), 1), (((1, -1), (1, -2)), 1)], ((), 0)))
        self.assertTrue(is_proved(judged(problem, log)))

    def test_each_number(self):
        for holes in range(1, 9):
            found = pigeons(holes)
            self.assertEqual((type(found), len(found), type(found[1])), (tuple, 2, list))
            problem, log = found
            many = range(1, holes + 2)
            rows = [(tuple((1, (i - 1) * holes + h) for h in range(1, holes + 1)), 1) for i in many]
            for h in range(1, holes + 1):
                rows += [(((1, -((i - 1) * holes + h)), (1, -((j - 1) * holes + h))), 1)
                         for i in many for j in many if i < j]
            self.assertEqual(problem, Problem(holes * (holes + 1), rows, ((), 0)))
            self.assertLessEqual(len(log), holes + 1)
            self.assertEqual({step[0] for step in log}, {"derive"})
            self.assertLessEqual(sum(len(step[1]) for step in log), holes ** 3 + 3 * holes ** 2 + holes + 1)
            judge = judged(problem, log)
            self.assertTrue(any(helper.impossible(row) for row in judge.known().values()))
            self.same(is_proved(judge), True)
            if holes <= 3:
                self.same(helper.where(problem.many, rows), [])
            self.same(is_proved(judged(problem, log[:-1])), False)

    def test_new_each_time(self):
        problem, log = pigeons(2)
        log.clear()
        self.same(len(pigeons(2)[1]) > 0, True)

    def test_errors(self):
        for holes in (None, 0, 9, -1, True, "1", [1], (1,), {}):
            self.refuses(BadNumber, pigeons, holes)
