"""What the tests share: the document said again in plain words, values of all kinds, and a test case.

Nothing here uses the package for what it judges, so that the tests hold the package against the document.
"""
import random
import unittest
from itertools import product

from witnesslog import errors
from witnesslog.problems import Problem


def number(thing):
    return type(thing) is int


def listed(thing):
    return type(thing) in (list, tuple)


def literal(many, thing):
    return number(thing) and thing != 0 and abs(thing) <= many


def terms(many, thing):
    if type(thing) is not tuple:
        return False
    for pair in thing:
        if type(pair) is not tuple or len(pair) != 2 or not number(pair[0]) or pair[0] < 1:
            return False
        if not literal(many, pair[1]):
            return False
    sizes = [abs(pair[1]) for pair in thing]
    return sizes == sorted(set(sizes))


def row(many, thing):
    return type(thing) is tuple and len(thing) == 2 and terms(many, thing[0]) and number(thing[1]) and thing[1] >= 0


def filling(many, thing):
    return type(thing) is tuple and len(thing) == many and all(number(item) and item in (0, 1) for item in thing)


def image(many, thing):
    return literal(many, thing) or type(thing) is str and thing in ("yes", "no")


def witness(many, thing):
    return type(thing) is tuple and len(thing) == many and all(image(many, item) for item in thing)


def exchange(many, thing):
    return witness(many, thing) and sorted(map(str_size, thing)) == sorted(map(str, range(1, many + 1)))


def str_size(thing):
    return thing if type(thing) is str else str(abs(thing))


def all_fillings(many):
    return [tuple(items) for items in product((0, 1), repeat=many)]


def worth(l, at):
    return at[l - 1] if l > 0 else 1 - at[-l - 1]


def comes_to(pairs, at):
    return sum(weight * worth(l, at) for weight, l in pairs)


def holds(one, at):
    return comes_to(one[0], at) >= one[1]


def where(many, rows):
    return [at for at in all_fillings(many) if all(holds(one, at) for one in rows)]


def weights(one):
    return sum(weight for weight, _ in one[0])


def impossible(one):
    return weights(one) < one[1]


def opposite(one):
    return (tuple((weight, -l) for weight, l in one[0]), max(0, weights(one) - one[1] + 1))


def normal(many, sums, bound):
    pairs = []
    for v in range(1, many + 1):
        c = sum(k for k, l in sums if l == v) - sum(k for k, l in sums if l == -v)
        if c > 0:
            pairs.append((c, v))
        if c < 0:
            pairs.append((-c, -v))
    least = bound - sum(k for k, l in sums if l < 0) - sum(
        min(0, sum(k for k, l in sums if l == v) - sum(k for k, l in sums if l == -v)) for v in range(1, many + 1))
    return (tuple(pairs), max(0, least))


def up(k, m):
    return k // m + (1 if k % m else 0)


def put(many, rows, stack, told):
    """The stack behind the instruction told, or None if it cannot be done."""
    if type(told) is not tuple or not told or type(told[0]) is not str:
        return None
    word, more = told[0], told[1:]
    if word not in ("row", "literal", "sum", "times", "divided", "capped", "weakened"):
        return None
    if len(more) != (0 if word in ("sum", "capped") else 1) or not all(number(k) for k in more):
        return None
    if len(stack) < {"row": 0, "literal": 0, "sum": 2}.get(word, 1):
        return None
    if word == "row":
        return stack + [rows[more[0]]] if more[0] in rows else None
    if word == "literal":
        return stack + [(((1, more[0]),), 0)] if literal(many, more[0]) else None
    if word == "sum":
        one, other = stack[-2:]
        return stack[:-2] + [normal(many, one[0] + other[0], one[1] + other[1])]
    pairs, bound = stack[-1]
    if word == "times":
        new = (tuple((w * more[0], l) for w, l in pairs), bound * more[0])
        return stack[:-1] + [new] if more[0] >= 1 else None
    if word == "divided":
        if more[0] < 1:
            return None
        return stack[:-1] + [(tuple((up(w, more[0]), l) for w, l in pairs), up(bound, more[0]))]
    if word == "capped":
        return stack[:-1] + [(tuple((min(w, bound), l) for w, l in pairs) if bound else (), bound)]
    if not 1 <= more[0] <= many:
        return None
    gone = sum(w for w, l in pairs if abs(l) == more[0])
    return stack[:-1] + [(tuple((w, l) for w, l in pairs if abs(l) != more[0]), max(0, bound - gone))]


def end(many, rows, derivation):
    """("end", row) or ("bad", index), for rows, a dict."""
    if not listed(derivation):
        return ("bad", 0)
    stack = []
    for index, told in enumerate(derivation):
        stack = put(many, rows, stack, told) if index < 400000 else None
        if stack is None or stack and max([stack[-1][1]] + [w for w, _ in stack[-1][0]]) >= 10 ** 40:
            return ("bad", index)
    return ("end", stack[0]) if len(stack) == 1 else ("bad", len(derivation))


def named_dict(named):
    return dict(named) if type(named) is dict else dict(enumerate(named))


def free(named):
    return max(named_dict(named)) + 1 if named else 0


def ends(many, named, paper):
    """("ends", rows) or ("bad", index)."""
    if type(paper) is not tuple or not 1 <= len(paper) <= 5000:
        return ("bad", 0)
    rows = named_dict(named)
    found = []
    for k, derivation in enumerate(paper):
        word, thing = end(many, rows, derivation)
        if word == "bad":
            return ("bad", k)
        rows[free(named) + k] = thing
        found.append(thing)
    return ("ends", found)


def slack(one, given):
    return sum(w for w, l in one[0] if -l not in given) - one[1]


def forced(one, given):
    left = slack(one, given)
    if left < 0:
        return []
    return [l for w, l in one[0] if w > left and l not in given and -l not in given]


def followed(rows, given):
    """Following, worked off by hand: steps and clash."""
    given = list(given)
    steps = []
    while True:
        news = [(index, forced(one, given)) for index, one in enumerate(rows)
                if slack(one, given) < 0 or forced(one, given)]
        if not news:
            return (tuple(steps), None)
        index, found = news[0]
        if not found:
            return (tuple(steps), index)
        steps.append((found[0], index))
        given.append(found[0])


def some_row(rng, many, most=4, size=None):
    """A row by chance, of at most size pairs; most is the greatest weight."""
    count = rng.randint(0, many if size is None else min(size, many))
    variables = sorted(rng.sample(range(1, many + 1), count))
    pairs = tuple((rng.randint(1, most), v * rng.choice((1, -1))) for v in variables)
    return (pairs, rng.randint(0, weights((pairs, 0)) + 1))


def some_literals(rng, many, count=None):
    variables = rng.sample(range(1, many + 1), rng.randint(0, many) if count is None else count)
    return [v * rng.choice((1, -1)) for v in variables]


def some_filling(rng, many):
    return tuple(rng.randint(0, 1) for _ in range(many))


def some_witness(rng, many):
    return tuple(rng.choice(["yes", "no"] + [l for l in range(-many, many + 1) if l]) for _ in range(many))


def some_exchange(rng, many):
    return tuple(v * rng.choice((1, -1)) for v in rng.sample(range(1, many + 1), many))


def some_derivation(rng, many, names, length):
    """A derivation by chance that mostly has an end."""
    told = []
    high = 0
    while len(told) < length or high > 1:
        word = rng.choice(["row", "row", "literal", "times", "divided", "capped", "weakened", "sum", "sum"])
        if word == "sum":
            if high < 2:
                continue
            high -= 1
            told.append((word,))
        elif word == "row" and names:
            high += 1
            told.append((word, rng.choice(names)))
        elif word in ("row", "literal"):
            high += 1
            told.append(("literal", rng.choice([l for l in range(-many, many + 1) if l])))
        elif high and word == "capped":
            told.append((word,))
        elif high:
            told.append((word, rng.randint(1, many if word == "weakened" else 4)))
        if len(told) > length:
            told.extend([("sum",)] * (high - 1))
            high = min(high, 1)
    return told if high == 1 else told + [("literal", 1)]


def deep(levels):
    """Values that are levels deep."""
    one, other, third = 1, (), ()
    for k in range(levels):
        one, other, third = [one], (other,), {k: (third,)} if k % 2 else [third]
    return [one, other, third]


def odd_values():
    """Values of all kinds, new ones."""
    problem = Problem(2, [(((1, 1),), 1)], (((1, 2),), 3))
    return [
        0, 1, -1, 2, -2, 3, 7, 600, 601, -600, 10 ** 9, -10 ** 9, 10 ** 50, True, False, None,
        "", "yes", "no", "row", "1", "sum", "restart", "\n",
        [], (), {}, [0], (0,), (1,), [1], (True,), (None,), ("yes",), ("no", "yes"), {1: 1}, {"a": ()}, {(1, 2): []},
        {True: 1}, {None: None},
        (0, 1), (1, 0), [0, 1], (0, True), (1, 2), (2, 1), (-2, 1), (1, 1), (1, -1), ("yes", 1), (1, None), (0, 1, 2),
        ((), 0), ((), 1), ((), True), ((), -1), ((), None), ([], 0), [(), 0], ((), 0, 0), ((),), (0, ()), ("", 0),
        (((1, 1),), 1), (((1, 1),), False), (((True, 1),), 1), (((1, True),), 1), (((0, 1),), 1), (((-1, 1),), 1),
        (((1, 0),), 1), ([(1, 1)], 1), (((1, 1), (1, 1)), 1), (((1, 2), (1, 1)), 1), (((1, 1), (1, -1)), 1),
        (((1, 1, 1),), 1), (((1,),), 1), (([1, 1],), 1), ((1, 1), 1), (("11",), 1), ((None,), 1), (((1, "1"),), 1),
        (((1, 1), (2, -2)), 2), [(((1, 1), (2, -2)), 2)], ((((1, 1), (2, -2)), 2),),
        [("row", 0)], (("row", 0),), (["row", 0],), [("row", True)], [("literal", 1)], [("sum",)], [("row",)],
        [("literal", 1), ("capped",)], ((("literal", 1),),), ([("literal", 1)],), [[("literal", 1)]], (("literal", 1),),
        [(1, 0)], ((1, 0),), ((1, None),), ((1, None), (2, 0)), ((1, True),), ([1, None],), ((True, None),),
        problem, [problem], (problem, 0), ((problem,), 0), {1: problem}, errors.BadRow("text"), errors.TooMany(3),
    ] + deep(80) + deep(79)


def is_key(thing):
    if type(thing) is tuple:
        return all(is_key(item) for item in thing)
    return type(thing) not in (list, dict)


def variants(thing):
    """Values that differ from thing in one place, each a little, at any depth."""
    found = []
    if type(thing) in (list, tuple):
        kind = type(thing)
        found.append(list(thing) if kind is tuple else tuple(thing))
        found.append(kind(list(thing) + [0]))
        found.append({k: item for k, item in enumerate(thing)})
        found.append(dict.fromkeys([k for k in thing if type(k) in (int, str)]))
        for k in range(len(thing)):
            found.append(kind(thing[:k] + thing[k + 1:]))
            found.append(kind(list(thing[:k]) + [thing[k]] + list(thing[k:])))
            for other in variants(thing[k]):
                found.append(kind(list(thing[:k]) + [other] + list(thing[k + 1:])))
        found.extend([kind(reversed(thing)), None])
    elif type(thing) is dict:
        for k in thing:
            rest = {other: thing[other] for other in thing if other != k}
            found.append(rest)
            found.extend({**rest, k: other} for other in variants(thing[k]))
            found.extend({**rest, other: thing[k]} for other in variants(k) if is_key(other))
        found.extend([list(thing.items()), None])
    elif type(thing) is int:
        found.extend([thing + 1, thing - 1, -thing, 0, bool(thing), None, str(thing), (thing,), [thing]])
    else:
        found.extend([None, 0, True, "", "YES", [thing], (thing,)])
    return found


class Case(unittest.TestCase):
    """A test case that tells True from 1 and a list from a tuple."""

    def setUp(self):
        self.rng = random.Random(20)

    def same(self, found, wanted, why=None):
        self.assertEqual(repr(found), repr(wanted), why)

    def refuses(self, error, call, *passed, **told):
        """call raises just this error, with the attributes told."""
        attributes = {name: told.pop(name) for name in ("index", "most") if name in told}
        with self.assertRaises(errors.WitnessError) as caught:
            call(*passed, **told)
        self.assertIs(type(caught.exception), error)
        self.same(vars(caught.exception), attributes)

    def judges(self, call, wanted, values, *ahead):
        """call, with ahead and a value, says of each value what wanted says."""
        for thing in values:
            self.same(call(*ahead, thing), bool(wanted(thing)), thing)
