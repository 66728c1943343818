from tests import helper
from tests.helper import Case
from tests.test_orders import BAD_ORDERS, HAND, earlier, some_order, told_soundness
from tests.test_rows import BAD_MANYS
from witnesslog.earliest import earliest, way_down
from witnesslog.errors import BadFilling, BadFillings, BadMany, BadOrder, NotSound, TooMany
from witnesslog.orders import by_weights, lexicographic

SEVERAL = [(1, 1), (0, 1), (1, 0)]
BAD_SEVERALS = (None, 0, "", {}, [None], [[0, 1]], [(0, 1), (0, True)], [(0,)], [(0, 1, 1)], (0, 1), [(0, 2)],
                [(0, 1)] * 401)


def way(thing, several, start):
    found = [start]
    while True:
        ahead = [at for at in sorted(several) if earlier(thing, at, found[-1])]
        if not ahead:
            return found
        found.append(ahead[0])


class EarliestTest(Case):
    def test_by_hand(self):
        self.same(earliest(2, by_weights(2, ((1, 1), (1, 2))), SEVERAL), [(0, 1), (1, 0)])
        self.same(earliest(many=2, order=lexicographic(2, (1, 2)), several=SEVERAL), [(0, 1)])
        self.same(earliest(2, HAND, []), [])
        self.same(earliest(2, ((), ()), ((1, 1), (0, 1), (1, 1))), [(0, 1), (1, 1)])
        self.same(way_down(2, HAND, SEVERAL, (1, 1)), [(1, 1), (0, 1)])
        self.same(way_down(many=2, order=by_weights(2, ((1, 1), (2, 2))), several=SEVERAL, start=(1, 1)),
                  [(1, 1), (0, 1), (1, 0)])
        self.same(way_down(2, HAND, [], (1, 1)), [(1, 1)])
        self.same(way_down(2, HAND, [(1, 1)], (0, 1)), [(0, 1)])

    def test_by_all(self):
        sound = 0
        for _ in range(600):
            many = self.rng.randint(1, 4)
            thing = some_order(self.rng, many)
            several = [helper.some_filling(self.rng, many) for _ in range(self.rng.randint(0, 6))]
            start = helper.some_filling(self.rng, many)
            found = earliest(many, thing, several)
            self.same(found, sorted({at for at in several if not any(earlier(thing, other, at) for other in several)}))
            if told_soundness(thing) != ("sound",):
                self.refuses(NotSound, way_down, many, thing, several, start)
                continue
            sound += 1
            on = way_down(many, thing, several, start)
            self.same(on, way(thing, several, start))
            self.assertEqual(len(set(on)), len(on))
            self.assertTrue(on == [start] or on[-1] in found)
            self.assertEqual(found == [], several == [])
        self.assertGreater(sound, 100)

    def test_many_fillings(self):
        several = [tuple(int(c) for c in bin(k)[2:].zfill(9)) for k in range(511, 111, -1)]
        thing = lexicographic(9, [1, 2, 3, 4, 5, 6])
        self.same(earliest(9, thing, several), sorted(several)[:8 - 112 % 8])
        self.same(way_down(9, thing, several, (1,) * 9), [(1,) * 9, tuple(several[-1])])

    def test_errors(self):
        for call, more in ((earliest, []), (way_down, [None])):
            for many in BAD_MANYS:
                self.refuses(BadMany, call, many, None, None, *more)
            for thing in BAD_ORDERS:
                self.refuses(BadOrder, call, 2, thing, None, *more)
            for several in BAD_SEVERALS:
                self.refuses(BadFillings, call, 2, HAND, several, *more)
        long = lexicographic(7, [1, 2, 3, 4, 5, 6, 7])
        wrong = ((1,), ((((1, 1),), 1),))
        broken = ((1, 2, 3, 4, 5, 6, 7), ((((1, 1),), 1),))
        for start in (None, [0, 1], (0, True), (0,), (0, 1, 0), (2, 0), {}):
            self.refuses(BadFilling, way_down, 2, wrong, SEVERAL, start)
            self.refuses(BadFilling, way_down, 7, broken, [], start)
        self.refuses(TooMany, way_down, 7, long, [], (0,) * 7, most=6)
        self.refuses(TooMany, way_down, 7, broken, [], (0,) * 7, most=6)
        self.refuses(NotSound, way_down, 2, wrong, [], (0, 0))
        self.same(earliest(7, broken, [(0,) * 7]), [(0,) * 7])
