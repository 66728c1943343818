from tests import helper
from tests.helper import Case
from tests.test_learning import loose_rows
from tests.test_trails import chosen_trail
from witnesslog.trails import Path


class PathsTest(Case):
    def test_along_choices(self):
        for _ in range(200):
            many = self.rng.randint(1, 7)
            rows = loose_rows(self.rng, many, many)
            choices = []
            path = Path(rows, [])
            while path.barring is None and len(path.pairs) < many:
                taken = [abs(l) for l, _ in path.pairs]
                choices.append(self.rng.choice([v for v in range(1, many + 1) if v not in taken])
                               * self.rng.choice((1, -1)))
                path.choose(choices[-1])
                trail, clash = chosen_trail(rows, choices)
                self.same((tuple(path.pairs), path.barring), (tuple(trail), clash))
            self.same(sorted(path.taken()), sorted(l for l, _ in path.pairs))
            level = self.rng.randint(0, len(choices))
            path.go_back(level)
            if level < len(choices):
                self.same((tuple(path.pairs), path.barring), chosen_trail(rows, choices[:level]))

    def test_what_clashes(self):
        clashing = 0
        for _ in range(400):
            many = self.rng.randint(1, 6)
            rows = loose_rows(self.rng, many, 2 * many)
            path = Path(rows, [])
            if path.barring is None:
                free = [l for l in helper.some_literals(self.rng, many, many) if abs(l) not in map(abs, path.taken())]
                for l in free[:1]:
                    path.choose(l)
                for literals in (free, free[1:], helper.some_literals(self.rng, many), []):
                    wanted = helper.followed(rows, literals)[1] is not None
                    self.same(path.clashes_with(literals), wanted)
                    clashing += wanted
                self.same(tuple(path.pairs), tuple(chosen_trail(rows, [])[0]))
        self.assertGreater(clashing, 100)
