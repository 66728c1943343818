from tests import helper
from tests.helper import Case
from tests.test_rows import BAD_MANYS, BAD_ROWS, ROW
from witnesslog.errors import BadFilling, BadLiteral, BadMany, BadRows, TooMany
from witnesslog.fillings import fillings, is_filling, where, worth


class FillingTest(Case):
    def test_of_any_value(self):
        for many in (1, 2, 3):
            self.judges(is_filling, lambda thing: helper.filling(many, thing), helper.odd_values(), many)
        self.same(is_filling(2, (0, 1)), True)
        self.judges(is_filling, lambda thing: helper.filling(2, thing), helper.variants((0, 1)), 2)
        self.judges(is_filling, lambda thing: helper.filling(2, thing), helper.variants((1, 1)), 2)

    def test_bad_many(self):
        for many in BAD_MANYS:
            self.refuses(BadMany, is_filling, many, (0,))
            self.refuses(BadMany, worth, many, None, None)
            self.refuses(BadMany, fillings, many)
            self.refuses(BadMany, where, many, None)

    def test_worth(self):
        for filling in helper.all_fillings(3):
            for v in (1, 2, 3):
                self.same(worth(3, v, filling), filling[v - 1])
                self.same(worth(3, -v, filling), 1 - filling[v - 1])
        self.same(worth(many=1, literal=-1, filling=(0,)), 1)

    def test_worth_errors(self):
        for literal in (0, 3, -3, True, None, "1", [1]):
            self.refuses(BadLiteral, worth, 2, literal, None)
        for filling in (None, [0, 1], (0, True), (0,), (0, 1, 0), (0, 2), (-1, 0)):
            self.refuses(BadFilling, worth, 2, 1, filling)


class AllTest(Case):
    def test_fillings(self):
        self.same(fillings(1), [(0,), (1,)])
        self.same(fillings(2), [(0, 0), (0, 1), (1, 0), (1, 1)])
        for many in (3, 5, 12):
            self.same(fillings(many), helper.all_fillings(many))
        self.same(fillings(many=1), [(0,), (1,)])
        for many in (13, 200, 600):
            self.refuses(TooMany, fillings, many, most=12)

    def test_new(self):
        found = fillings(2)
        found.append(None)
        self.same(fillings(2), helper.all_fillings(2))

    def test_where(self):
        for _ in range(300):
            many = self.rng.randint(1, 5)
            rows = [helper.some_row(self.rng, many) for _ in range(self.rng.randint(0, 4))]
            self.same(where(many, rows), helper.where(many, rows))
            self.same(where(many=many, rows=tuple(rows)), helper.where(many, rows))
        self.same(len(where(12, [(((1, 12),), 1)] * 400)), 2048)

    def test_where_errors(self):
        for rows in (None, 0, {}, {0: ROW}, ROW, [ROW] * 401, [ROW, None], [list(ROW)], "", {ROW: 1}):
            self.refuses(BadRows, where, 2, rows)
        for row in BAD_ROWS:
            self.refuses(BadRows, where, 2, [ROW, row])
        self.refuses(BadRows, where, 13, None)
        self.refuses(TooMany, where, 13, [], most=12)
        self.same(where(2, [ROW] * 400), [(1, 0)])

    def test_where_leaves_rows(self):
        rows = [ROW]
        found = where(2, rows)
        self.same(rows, [ROW])
        rows.append(((), 1))
        self.same(found, [(1, 0)])
