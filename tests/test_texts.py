import re

from tests import helper
from tests.helper import Case
from tests.test_judge import DOMINATE, HAND, ORDER
from tests.test_likenesses import NO_PROBLEMS
from tests.test_meaning import EMPTY
from tests.test_plainly import log_of_every_kind
from tests.test_seeking import tight_problem
from witnesslog.cores import guarded, guarded_log
from witnesslog.errors import BadLog, BadPaper, BadProblem, BadText
from witnesslog.plainly import plain
from witnesslog.problems import Problem
from witnesslog.proving import follows
from witnesslog.texts import begun, log_of, log_text, paper_of, paper_text, problem_of, problem_text

NUMBER = r"(?:0|-?[1-9][0-9]{0,39})"
INSTRUCTION = rf"(?:row|literal|times|divided|weakened):{NUMBER}|sum|capped"
KEY = rf"(?:row|order|same|along):{NUMBER}|own|price|strict"
MOST_ID = 999999999


def whole_lines(text):
    return text.split("\n")[:-1]


def numbers(words):
    return [int(word) if re.fullmatch(NUMBER, word) else None for word in words]


def tuple_of(word):
    parts = word.split(":")
    return (parts[0],) + tuple(int(part) for part in parts[1:])


def told_row(many, words):
    if len(words) < 2 or words[-2] != ">=" or not re.fullmatch(NUMBER, words[-1]):
        return None
    if not all(re.fullmatch(rf"{NUMBER}\*{NUMBER}", word) for word in words[:-2]):
        return None
    row = (tuple(tuple(map(int, word.split("*"))) for word in words[:-2]), int(words[-1]))
    return row if helper.row(many, row) else None


def told_derivation(words):
    if not 1 <= len(words) <= 400000 or not all(re.fullmatch(INSTRUCTION, word) for word in words):
        return None
    told = tuple(tuple_of(word) for word in words)
    for one in told:
        if one[0] == "row" and abs(one[1]) > MOST_ID or one[0] == "literal" and not 1 <= abs(one[1]) <= 600:
            return None
        if one[0] in ("times", "divided") and one[1] < 1 or one[0] == "weakened" and not 1 <= one[1] <= 600:
            return None
    return told


def told_images(words):
    found = tuple(word if word in ("yes", "no") else number for word, number in zip(words, numbers(words)))
    right = 1 <= len(found) <= 200 and all(type(one) is str or one and abs(one) <= 600 for one in found)
    return found if right else None


def in_range(number, least, most):
    return number is not None and least <= number <= most


def told_head(words):
    """The step of a first line, and how many rows and papers follow; None if it cannot stand."""
    word, more = words[0], words[1:]
    own = numbers(more)
    cut = more.index(":") if ":" in more else None
    if word == "derive" and told_derivation(more):
        return (word, told_derivation(more)), 0, 0
    if word == "follow" and told_row(600, more):
        return (word, told_row(600, more)), 0, 0
    if word == "refute" and cut is not None and told_row(600, more[:cut]) and told_derivation(more[cut + 1:]):
        return (word, told_row(600, more[:cut]), told_derivation(more[cut + 1:])), 0, 0
    if word == "plan" and 1 <= len(own) <= 200 and all(item in (0, 1) for item in own):
        return (word, tuple(own)), 0, 0
    if word == "new" and not more:
        return (word,), 0, 0
    if word == "core" and 1 <= len(own) <= 200 and all(in_range(item, 0, MOST_ID) for item in own):
        return (word, tuple(own)), 0, 0
    if word == "leave" and len(own) == 1 and in_range(own[0], 0, MOST_ID):
        return (word, own[0]), 0, 0
    if word == "leave" and cut == 2 and in_range(own[0], 0, MOST_ID) and in_range(own[1], 0, MOST_ID):
        images = told_images(more[3:])
        return ((word, own[0], images, {}), 0, own[1]) if images else None
    if word in ("witness", "dominate") and cut is not None and in_range(own[0], 0, MOST_ID):
        row, images = told_row(600, more[1:cut]), told_images(more[cut + 1:])
        return ((word, row, images, {}), 0, own[0]) if row and images else None
    if word == "order" and cut == 2 and in_range(own[0], 0, MOST_ID) and in_range(own[1], 0, 20):
        if len(own) <= 203 and all(number and abs(number) <= 600 for number in own[3:]):
            return (word, (tuple(own[3:]), ()), {}), own[1], own[0]
    return None


def told_step(lines, at):
    """("step", step, behind) or ("bad", index)."""
    head = told_head(lines[at])
    if head is None:
        return ("bad", at)
    step, rows, papers = head
    behind, found, goals = at + 1, [], {}
    for _ in range(rows):
        row = told_row(600, lines[behind][1:]) if behind < len(lines) and lines[behind][0] == "row" else None
        if row is None:
            return ("bad", behind)
        found.append(row)
        behind += 1
    while len(goals) < papers:
        words = lines[behind] if behind < len(lines) else [""]
        if words[0] != "goal" or len(words) < 4 or words[2] != ":" or not re.fullmatch(KEY, words[1]):
            return ("bad", behind)
        key, told = tuple_of(words[1]), told_derivation(words[3:])
        if told is None or len(key) > 1 and not 0 <= key[1] <= MOST_ID or goals and key <= list(goals)[-1]:
            return ("bad", behind)
        goals[key] = told
        behind += 1
    if step[0] == "order":
        step = (step[0], (step[1][0], tuple(found)), goals)
    elif len(step) == 4:
        step = step[:3] + (goals,)
    return ("step", step, behind)


def told_log(text):
    """The steps that can be read, and the number of the first line that cannot stand, or None."""
    lines = [line.split(" ") for line in whole_lines(text)]
    at, steps = 0, []
    while at < len(lines):
        found = told_step(lines, at)
        if found[0] == "bad":
            return steps, found[1] + 1
        steps.append(found[1])
        at = found[2]
    return steps, None if text == "" or text.endswith("\n") else len(lines) + 1


def told_problem(text):
    """The problem, or the number of the line that cannot stand."""
    lines, many, rows, price = [line.split(" ") for line in whole_lines(text)], None, [], None
    for k, words in enumerate(lines):
        if k == 0:
            many = int(words[1]) if len(words) == 2 and re.fullmatch(NUMBER, words[1]) else 0
            right = words[0] == "many" and 1 <= many <= 200
        elif words[0] == "row":
            row = told_row(many, words[1:])
            right = row is not None and price is None and len(rows) < 400
            rows.append(row)
        else:
            right = words[0] == "price" and price is None and len(words) > 2 and words[2] == ":"
            own = numbers(words[1:2])
            row = told_row(many, words[3:] + [">=", "0"]) if right else None
            right = right and own[0] is not None and row is not None
            price = (row[0], own[0]) if right else None
        if not right:
            return k + 1
    if price is None or not text.endswith("\n"):
        return len(lines) + 1
    return Problem(many, rows, price)


def told_paper(text):
    lines = [line.split(" ") for line in whole_lines(text)]
    for k, words in enumerate(lines):
        if words[0] != "derive" or told_derivation(words[1:]) is None or k >= 5000:
            return k + 1
    if not lines or not text.endswith("\n"):
        return len(lines) + 1
    return tuple(told_derivation(words[1:]) for words in lines)


def tuples(thing):
    """Thing with tuples for lists."""
    if type(thing) in (list, tuple):
        return tuple(tuples(item) for item in thing)
    if type(thing) is dict:
        return {key: tuples(thing[key]) for key in sorted(thing)}
    return thing


def spoilt_texts(rng, text, count):
    """Texts that differ from text in a place: signs, words, lines."""
    signs = "0123456789-*:>=\n abcdeflmnoprstwxy\t\r+_.\u0661\u00b2"
    for _ in range(count):
        at = rng.randrange(len(text) + 1)
        kind = rng.randrange(9)
        lines = text.split("\n")
        one, other = rng.randrange(len(lines)), rng.randrange(len(lines))
        if kind == 0:
            yield text[:at] + rng.choice(signs) + text[at + 1:]
        elif kind == 1:
            yield text[:at] + rng.choice(signs) + text[at:]
        elif kind == 2:
            yield text[:at] + text[at + 1:]
        elif kind == 3:
            yield "\n".join(lines[:one] + lines[one + 1:])
        elif kind == 4:
            yield "\n".join(lines[:one] + [lines[one]] + lines[one:])
        elif kind == 5:
            lines[one], lines[other] = lines[other], lines[one]
            yield "\n".join(lines)
        elif kind == 6:
            yield text[:at]
        elif kind == 7:
            words = lines[one].split(" ")
            words[rng.randrange(len(words))] = rng.choice(["0", "-0", "01", "yes", ":", "sum", "row:0", "1*1", ">=", "",
                                                           "601", "-600", "own", "goal", "new", "5", "x"])
            yield "\n".join(lines[:one] + [" ".join(words)] + lines[one + 1:])
        else:
            yield "\n".join(lines[:one] + [rng.choice(["", " ", "new", "plan 1", "row >= 0", "goal own : sum", "core 1",
                                                       "many 2", "price 0 :", "derive sum"])] + lines[one:])


class TextCase(Case):
    def refuses_line(self, call, text, line):
        with self.assertRaises(BadText) as caught:
            call(text)
        self.same(vars(caught.exception), {"line": line}, text)

    def reads(self, call, back, wanted, text):
        """call reads text as wanted tells: a number is that of the line that cannot stand."""
        if type(wanted) is int:
            self.refuses_line(call, text, wanted)
            return False
        found = call(text)
        if isinstance(wanted, Problem):
            self.assertEqual(found, wanted)
        else:
            self.same(found, wanted)
        self.same(back(found), text)
        return True


class LogTextTest(TextCase):
    def read_log(self, text):
        steps, line = told_log(text)
        self.same(begun(text), steps)
        self.assertTrue(text.startswith(log_text(steps)))
        return self.reads(log_of, log_text, steps if line is None else line, text)

    def test_by_hand(self):
        step = ("refute", (((1, 1),), 1), (("row", 0), ("row", -1), ("sum",)))
        self.same(log_text(log=[step]), "refute 1*1 >= 1 : row:0 row:-1 sum\n")
        self.same(log_of(text=log_text([step])), [step])
        self.same((log_text([]), log_of(""), begun(text="")), ("", [], []))
        log = [("derive", [("row", 1), ("literal", -3), ("sum",), ("times", 5), ("divided", 5), ("capped",),
                           ("weakened", 2)]),
               ("follow", ((), 0)), ("plan", (0, 1, 1)), ("new",), ("core", (3, 1)), ("leave", 7),
               ("witness", (((3, -2),), 1), ("yes", -2, "no"), {("row", 3): [("row", -1)], ("own",): [("row", -2)]}),
               ("dominate", ((), 1), (1,), {}),
               ("leave", 0, (2, 1), {("order", 0): (("sum",),), ("strict",): [("sum",)]}),
               ("order", ((1, -2), ((((1, -1), (1, 3)), 1), ((), 0))),
                {("same", 0): [("sum",)], ("along", 1): [("sum",)]}),
               ("order", ((), ()), {})]
        text = ("derive row:1 literal:-3 sum times:5 divided:5 capped weakened:2\nfollow >= 0\nplan 0 1 1\nnew\n"
                "core 3 1\nleave 7\nwitness 2 3*-2 >= 1 : yes -2 no\ngoal own : row:-2\ngoal row:3 : row:-1\n"
                "dominate 0 >= 1 : 1\nleave 0 2 : 2 1\ngoal order:0 : sum\ngoal strict : sum\norder 2 2 : 1 -2\n"
                "row 1*-1 1*3 >= 1\nrow >= 0\ngoal along:1 : sum\ngoal same:0 : sum\norder 0 0 :\n")
        self.same(log_text(log), text)
        self.same(log_text(tuple(log)), text)
        self.same(log_of(text), list(tuples(log)))
        self.read_log(text)
        for _ in range(6000):
            for other in spoilt_texts(self.rng, text, 1):
                self.read_log(other)

    def test_drawn_logs(self):
        words, read = {}, 0
        for k in range(150):
            problem, log = log_of_every_kind(self.rng, words)
            if k % 3 == 0:
                log = plain(problem, log)
            text = log_text(log)
            self.same(log_of(text), list(tuples(log)))
            self.same(problem_of(problem_text(problem)).rows, problem.rows)
            for other in spoilt_texts(self.rng, text, 25):
                read += self.read_log(other)
            for at in range(0, len(text), max(1, len(text) // 15)):
                self.read_log(text[:at])
                done = begun(text[:at])
                self.same(done, list(tuples(log))[:len(done)])
                self.assertTrue(len(done) == len(log) or not text[:at].startswith(log_text(log[:len(done) + 1])))
        self.assertGreater(read, 200)
        self.same(len(words), 11)

    def test_missing_lines(self):
        for text, line in (("witness 1 >= 0 : 1\n", 2), ("order 0 1 :\n", 2), ("order 1 0 :\nnew\n", 2), ("new", 1),
                           ("new\nnew", 2), ("new\n\n", 2), ("\n", 1), (" ", 1), ("new \n", 1), (" new\n", 1),
                           ("witness 999999999 >= 0 : 1\ngoal own : sum\n", 3), ("witness 1000000000 >= 0 : 1\n", 1),
                           ("witness 2 >= 0 : 1\ngoal own : sum\ngoal own : sum\n", 3),
                           ("witness 2 >= 0 : 1\ngoal row:1 : sum\ngoal own : sum\n", 3), ("new\nleave 01\nnew", 2),
                           ("witness 1 >= 0 : 1\ngoal own : sum", 2), ("order 0 1 :\nrow >= 0", 2)):
            self.refuses_line(log_of, text, line)
            self.read_log(text)

    def test_widths(self):
        ones = tuple((1, v) for v in range(1, 601))
        right = [
            ("follow", (ones, 10 ** 40 - 1)), ("follow", (((10 ** 40 - 1, -600),), 0)), ("plan", (1,) * 200),
            ("core", (MOST_ID,) * 200), ("core", (0,)), ("leave", MOST_ID), ("leave", 0),
            ("witness", ((), 0), (600,) * 200, {}), ("leave", 0, ("no",) * 200, {}), ("leave", MOST_ID, (-600,), {}),
            ("derive", (("row", MOST_ID), ("row", -MOST_ID), ("times", 10 ** 40 - 1), ("divided", 10 ** 40 - 1),
                        ("literal", 600), ("literal", -600), ("weakened", 600))),
            ("dominate", ((), 0), (1,), {("row", MOST_ID): (("sum",),), ("order", 0): (("sum",),)}),
            ("order", ((1,) * 200, ((ones, 1),) * 20), {}), ("order", ((), (((), 0),)), {}),
            ("order", ((1, 1), ()), {("row", 0): (("sum",),), ("strict",): (("capped",),)})]
        for step in right:
            self.same(log_of(log_text([step])), [tuples(step)])
            self.read_log(log_text([step]))
        wrong = [
            ("follow", (((10 ** 40, 1),), 0)), ("follow", ((), 10 ** 40)), ("follow", (((1, 601),), 0)), ("plan", ()),
            ("plan", (1,) * 201), ("plan", (2,)), ("plan", (True,)), ("plan", [1]), ("core", ()), ("core", (1,) * 201),
            ("core", (MOST_ID + 1,)), ("core", (-1,)), ("core", [1]), ("leave", -1), ("leave", MOST_ID + 1),
            ("leave", True), ("witness", ((), 0), (), {}), ("witness", ((), 0), (1,) * 201, {}),
            ("witness", ((), 0), (601,), {}), ("witness", ((), 0), [1], {}), ("witness", ((), 0), (1,), []),
            ("witness", ((), 0), (1,), {("row", -1): (("sum",),)}), ("witness", ((), 0), (1,), {("own",): ()}),
            ("witness", ((), 0), (1,), {("row", MOST_ID + 1): (("sum",),)}),
            ("witness", ((), 0), (1,), {("own",): None}),
            ("witness", ((), 0), (1,), {("row", True): (("sum",),)}), ("witness", ((), 0), (1,), {"own": (("sum",),)}),
            ("witness", ((), 0), (1,), {("goal",): (("sum",),)}), ("witness", ((), 0), (1,), {("own", 1): (("sum",),)}),
            ("witness", ((), 0), (1,), {("row",): (("sum",),)}), ("leave", 1, (1,)), ("derive", []), ("derive", None),
            ("derive", [("row", MOST_ID + 1)]), ("derive", [("row", -MOST_ID - 1)]), ("derive", [("times", 10 ** 40)]),
            ("derive", [("times", 0)]), ("derive", [("divided", 10 ** 40)]), ("derive", [("literal", 601)]),
            ("derive", [("literal", 0)]), ("derive", [("weakened", 601)]), ("derive", [("weakened", 0)]),
            ("derive", [("sum", 1)]), ("derive", [("row",)]), ("derive", [["sum"]]), ("derive", [("row", True)]),
            ("order", ((1,) * 201, ()), {}), ("order", ((), (((), 0),) * 21), {}), ("order", ([], ()), {}),
            ("order", ((), []), {}), ("order", ((601,), ()), {}), ("order", ((), ((((1, 601),), 0),)), {}),
            ("new", 1), ("refute", ((), 0)), ("refute", ((), 0), []), ("plan",), (), None, 0, "new", ["new"], {}]
        for step in wrong:
            self.refuses(BadLog, log_text, [("new",), step, None], index=1)
        many = ("derive", (("sum",),) * 400000)
        self.assertEqual(log_of(log_text([many])), [many])
        self.refuses(BadLog, log_text, [("derive", (("sum",),) * 400001)], index=0)
        self.refuses_line(log_of, "new\nderive" + " sum" * 400001 + "\n", 2)

    def test_widths_that_are_read(self):
        wide, wider = "9" * 40, "1" + "0" * 40
        for line, right in ((f"follow {wide}*1 >= {wide}", True), (f"follow {wider}*1 >= 0", False),
                            (f"follow >= {wider}", False), (f"derive times:{wide}", True),
                            (f"derive times:{wider}", False),
                            ("derive row:999999999", True), ("derive row:1000000000", False), ("derive row:-0", False),
                            ("derive row:-999999999", True), ("derive row:-1000000000", False),
                            ("core 1000000000", False),
                            ("follow 1*600 >= 0", True), ("follow 1*601 >= 0", False), ("follow 1*-600 >= 0", True),
                            ("plan" + " 1" * 200, True), ("plan" + " 1" * 201, False), ("plan", False),
                            ("core" + " 1" * 200, True), ("core" + " 1" * 201, False), ("leave 1000000000", False),
                            ("witness 0 >= 0 :" + " yes" * 200, True), ("witness 0 >= 0 :" + " yes" * 201, False),
                            ("witness 0 >= 0 :", False), ("order 0 0 :" + " 1" * 200, True),
                            ("order 0 0 :" + " 1" * 201, False), ("order 0 21 :", False), ("follow 0*1 >= 0", False),
                            ("follow 1*1 1*1 >= 0", False), ("follow 1*1 >= -1", False), ("follow 1*1 >=", False),
                            ("follow -1*1 >= 0", False), ("follow 1*0 >= 0", False), ("derive times:0", False),
                            ("derive times:-1", False), ("derive sum:", False), ("derive sum:1", False)):
            self.same(self.read_log(line + "\n"), right)
            self.same(len(begun("new\n" + line + "\nnew\n")), 3 if right else 1)

    def test_no_log(self):
        for thing in helper.odd_values():
            if type(thing) is not str:
                self.refuses_line(log_of, thing, 0)
                self.refuses_line(begun, thing, 0)
                self.refuses_line(paper_of, thing, 0)
                self.refuses_line(problem_of, thing, 0)
            if type(thing) not in (list, tuple):
                self.refuses(BadLog, log_text, thing, index=0)
            if type(thing) is not tuple or not 1 <= len(thing) <= 5000:
                self.refuses(BadPaper, paper_text, thing, index=0)
            if thing != []:
                self.refuses(BadLog, log_text, [thing], index=0)
                if not (type(thing) is list and told_derivation_form(thing)):
                    if not (type(thing) is tuple and told_derivation_form(thing)):
                        self.refuses(BadPaper, paper_text, ([("sum",)], thing), index=1)

    def test_what_is_read_is_new(self):
        text = log_text([ORDER, DOMINATE])
        found = log_of(text)
        found[0][2].clear()
        found.clear()
        self.same(log_of(text), list(tuples([ORDER, DOMINATE])))


def told_derivation_form(thing):
    """Whether the items have words that are read."""
    try:
        words = [":".join(str(part) for part in one) for one in thing if type(one) is tuple]
    except TypeError:
        return False
    right = len(words) == len(thing) and told_derivation(words)
    return bool(right) and repr(tuple(thing)) == repr(right)


class ProblemTextTest(TextCase):
    def test_by_hand(self):
        problem = Problem(3, [(((2, 1), (3, -2)), 4), ((), 0)], (((3, -2), (1, 3)), -5))
        text = "many 3\nrow 2*1 3*-2 >= 4\nrow >= 0\nprice -5 : 3*-2 1*3\n"
        self.same(problem_text(problem=problem), text)
        self.assertEqual(problem_of(text=text), problem)
        self.same(problem_text(Problem(1, [], EMPTY)), "many 1\nprice 0 :\n")
        for at in range(len(text)):
            self.reads(problem_of, problem_text, told_problem(text[:at]), text[:at])

    def test_drawn(self):
        read = 0
        for _ in range(120):
            problem = tight_problem(self.rng)
            text = problem_text(problem)
            self.assertEqual(problem_of(text), problem)
            for other in spoilt_texts(self.rng, text, 40):
                read += self.reads(problem_of, problem_text, told_problem(other), other)
        self.assertGreater(read, 300)

    def test_lines_that_cannot_stand(self):
        for text, line in (("", 1), ("\n", 1), ("many 0\n", 1), ("many 201\n", 1), ("many 2\n", 2), ("many 2", 1),
                           ("many 2\nrow 1*3 >= 1\nprice 0 :\n", 2), ("many 2\nprice 0 : 1*3\n", 2),
                           ("many 2\nprice 0 :\nprice 0 :\n", 3), ("many 2\nprice 0 :\nrow >= 0\n", 3),
                           ("many 2\nprice 0 :\n\n", 3), ("many 2\nprice 0 :\nx", 3), ("many 2\nprice 0 :", 2),
                           ("many 2\nrow 1*2 1*1 >= 1\n", 2), ("many 2\nprice 0\n", 2), ("many 2\nprice : 1*1\n", 2),
                           ("many 2 \n", 1), ("many +2\n", 1), ("many 02\n", 1), ("row >= 0\n", 1),
                           ("many 2\n" + "row >= 0\n" * 401 + "price 0 :\n", 402),
                           ("many 2\nprice -0 :\n", 2), ("many 2\nprice 0 : 0*1\n", 2)):
            self.refuses_line(problem_of, text, line)
            self.same(told_problem(text), line)
        text = "many 200\n" + "row 1*-200 >= 1\n" * 400 + "price " + "9" * 40 + " : 1*200\n"
        self.same(len(problem_of(text).rows), 400)
        self.same(problem_text(problem_of(text)), text)
        self.refuses_line(problem_of, "many 2\nprice " + "9" * 41 + " :\n", 2)

    def test_errors(self):
        for thing in NO_PROBLEMS:
            self.refuses(BadProblem, problem_text, thing)


class PaperTextTest(TextCase):
    def test_by_hand(self):
        paper = ([("row", 0), ("divided", 2)], (("row", -3), ("capped",)))
        text = "derive row:0 divided:2\nderive row:-3 capped\n"
        self.same(paper_text(paper=paper), text)
        self.same(paper_of(text=text), tuples(paper))
        for other in spoilt_texts(self.rng, text, 2000):
            self.reads(paper_of, paper_text, told_paper(other), other)

    def test_drawn(self):
        papers = 0
        for _ in range(60):
            many = self.rng.randint(1, 4)
            rows = [helper.some_row(self.rng, many, 2) for _ in range(3)]
            word, paper = follows(many, rows, helper.some_row(self.rng, many, 2))
            if word == "paper":
                papers += 1
                text = paper_text(paper)
                self.same(paper_of(text), tuples(paper))
                for other in spoilt_texts(self.rng, text, 20):
                    self.reads(paper_of, paper_text, told_paper(other), other)
        self.assertGreater(papers, 10)

    def test_edges(self):
        for text, line in (("", 1), ("\n", 1), ("derive\n", 1), ("derive sum", 1), ("derive sum\nnew\n", 2),
                           ("derive sum\n" * 5001, 5001), ("derive sum\nderive sum", 2), ("derive  sum\n", 1)):
            self.refuses_line(paper_of, text, line)
        self.same(len(paper_of("derive sum\n" * 5000)), 5000)
        self.same(paper_text(([("sum",)],) * 5000), "derive sum\n" * 5000)
        for paper, index in (((), 0), ([[("sum",)]], 0), (([("sum",)],) * 5001, 0), (([],), 0), (([("sum",)], []), 1),
                             (([("sum",)], [("sum",), ("row", 10 ** 9)]), 1), (([("sum",)], None), 1), (None, 0)):
            self.refuses(BadPaper, paper_text, paper, index=index)

    def test_a_long_log(self):
        groups = [[1, 2, 3, 4, 5, 6]] * 20
        text = log_text(guarded_log(groups))
        self.same(log_of(text), list(tuples(guarded_log(groups))))
        self.assertEqual(problem_of(problem_text(guarded(groups))), guarded(groups))
        self.same(HAND.many, 2)
