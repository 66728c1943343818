"""Texts of problems, logs and papers, and what is read of them."""
from witnesslog.checks import MOST_ROWS, MOST_VARIABLES, are_terms_of, is_id, is_list, is_number_between, is_short_row
from witnesslog.derivations import is_derivation_form
from witnesslog.errors import BadLog, BadPaper, BadText
from witnesslog.goals import is_key_form
from witnesslog.judge import is_step_form
from witnesslog.orders import MOST_ORDER_ROWS
from witnesslog.papers import MOST_DERIVATIONS
from witnesslog.problems import MOST_OF_PROBLEM, Problem, check_problem

MOST_DIGITS = 40


def problem_text(problem):
    """The text of problem: how many variables, its rows, and its price."""
    check_problem(problem)
    terms, base = problem.price
    lines = [_line(["many", str(problem.many)])]
    lines.extend([_line(["row"] + _row_words(row)) for row in problem.rows])
    lines.append(_line(["price", str(base), ":"] + _pair_words(terms)))
    return "".join(lines)


def problem_of(text):
    """The problem that has this text."""
    lines = _lines_of(text)
    many = None
    rows = []
    price = None
    for index, words in enumerate(lines):
        if index == 0:
            many = _many_of(words)
            stands = many is not None
        elif words[0] == "row" and price is None and len(rows) < MOST_ROWS:
            rows.append(_row_of(many, words[1:]))
            stands = rows[-1] is not None
        else:
            stands = price is None
            price = _price_of(many, words)
            stands = stands and price is not None
        if not stands:
            raise BadText(index + 1)
    if price is None or not _ends_whole(text):
        raise BadText(len(lines) + 1)
    return Problem(many, rows, price)


def log_text(log):
    """The text of log: of each step a line, and lines for the rows of its order and for its papers."""
    if not is_list(log):
        raise BadLog(0)
    texts = []
    for index, step in enumerate(log):
        if not is_step_form(step):
            raise BadLog(index)
        texts.append(_step_text(step))
    return "".join(texts)


def log_of(text):
    """The list of the steps that have this text."""
    lines = _lines_of(text)
    steps, stop = _steps_of(lines)
    if stop is None and not _ends_whole(text):
        stop = len(lines)
    if stop is not None:
        raise BadText(stop + 1)
    return steps


def begun(text):
    """The longest list of steps whose text text begins with."""
    steps, _ = _steps_of(_lines_of(text))
    return steps


def paper_text(paper):
    """The text of paper: of each derivation a line."""
    if not isinstance(paper, tuple) or not 1 <= len(paper) <= MOST_DERIVATIONS:
        raise BadPaper(0)
    for index, derivation in enumerate(paper):
        if not is_derivation_form(derivation):
            raise BadPaper(index)
    return "".join([_line(["derive"] + _worded(derivation)) for derivation in paper])


def paper_of(text):
    """The paper that has this text."""
    lines = _lines_of(text)
    paper = []
    for index, words in enumerate(lines):
        told = _derivation_of(words[1:])
        if words[0] != "derive" or told is None or index >= MOST_DERIVATIONS:
            raise BadText(index + 1)
        paper.append(told)
    if len(paper) == 0 or not _ends_whole(text):
        raise BadText(len(lines) + 1)
    return tuple(paper)


def _line(words):
    return " ".join(words) + "\n"


def _pair_words(terms):
    return [str(weight) + "*" + str(literal) for weight, literal in terms]


def _row_words(row):
    return _pair_words(row[0]) + [">=", str(row[1])]


def _worded(things):
    """The words of instructions or of keys."""
    return [":".join([str(part) for part in thing]) for thing in things]


def _plainly(things):
    """The words of numbers and of images."""
    return [str(thing) for thing in things]


def _step_text(step):
    word = step[0]
    if word == "derive":
        return _line([word] + _worded(step[1]))
    if word == "follow":
        return _line([word] + _row_words(step[1]))
    if word == "refute":
        return _line([word] + _row_words(step[1]) + [":"] + _worded(step[2]))
    if word in ("plan", "core"):
        return _line([word] + _plainly(step[1]))
    if word == "order":
        literals, rows = step[1]
        head = _line([word, str(len(step[2])), str(len(rows)), ":"] + _plainly(literals))
        return head + "".join([_line(["row"] + _row_words(row)) for row in rows]) + _papers_text(step[2])
    if len(step) < 4:
        return _line([word] + _plainly(step[1:]))
    if word == "leave":
        head = [str(step[1]), str(len(step[3]))]
    else:
        head = [str(len(step[3]))] + _row_words(step[1])
    return _line([word] + head + [":"] + _plainly(step[2])) + _papers_text(step[3])


def _papers_text(papers):
    return "".join([_line(["goal"] + _worded([key]) + [":"] + _worded(papers[key])) for key in sorted(papers)])


def _lines_of(text):
    """The list of the words of each line that has a newline at its end."""
    if not isinstance(text, str):
        raise BadText(0)
    return [line.split(" ") for line in text.split("\n")[:-1]]


def _ends_whole(text):
    """Whether the last line, too, has a newline at its end."""
    return text == "" or text.endswith("\n")


def _number_of(word):
    """The number that has this word, or None."""
    digits = word[1:] if word.startswith("-") else word
    if not 1 <= len(digits) <= MOST_DIGITS or not all([digit in "0123456789" for digit in digits]):
        return None
    if digits[0] == "0" and len(word) > 1:
        return None
    return int(word)


def _numbers_of(words):
    return tuple([_number_of(word) for word in words])


def _many_of(words):
    if len(words) != 2 or words[0] != "many":
        return None
    many = _number_of(words[1])
    if not is_number_between(1, many, MOST_OF_PROBLEM):
        return None
    return many


def _price_of(many, words):
    if len(words) < 3 or words[0] != "price" or words[2] != ":":
        return None
    base = _number_of(words[1])
    terms = _terms_of(words[3:])
    if base is None or not are_terms_of(many, terms):
        return None
    return (terms, base)


def _terms_of(words):
    return tuple([_numbers_of(word.split("*")) for word in words])


def _row_of(many, words):
    if len(words) < 2 or words[-2] != ">=":
        return None
    row = (_terms_of(words[:-2]), _number_of(words[-1]))
    if not is_short_row(many, row):
        return None
    return row


def _told_of(word):
    """The instruction or the key that has this word, if any has it."""
    parts = word.split(":")
    return tuple(parts[:1]) + _numbers_of(parts[1:])


def _derivation_of(words):
    told = tuple([_told_of(word) for word in words])
    if not is_derivation_form(told):
        return None
    return told


def _steps_of(lines):
    """The list of the first steps, and the index of the first line that cannot stand, or None."""
    steps = []
    at = 0
    while at < len(lines):
        step, at = _step_at(lines, at)
        if step is None:
            return (steps, at)
        steps.append(step)
    return (steps, None)


def _step_at(lines, at):
    """The step that begins at this line, and the index behind it; or None, and that of a line that cannot stand."""
    step, row_count, paper_count = _head_of(lines[at])
    if step is None:
        return (None, at)
    behind = at + 1
    rows = []
    while len(rows) < row_count:
        row = _row_at(lines, behind)
        if row is None:
            return (None, behind)
        rows.append(row)
        behind += 1
    papers = {}
    last = None
    while len(papers) < paper_count:
        key, told = _goal_at(lines, behind)
        if told is None or last is not None and key <= last:
            return (None, behind)
        papers[key] = told
        last = key
        behind += 1
    if step[0] == "order":
        step = ("order", (step[1][0], tuple(rows)), papers)
    elif len(step) == 4:
        step = step[:3] + (papers,)
    return (step, behind)


def _row_at(lines, at):
    if at >= len(lines) or lines[at][0] != "row":
        return None
    return _row_of(MOST_VARIABLES, lines[at][1:])


def _goal_at(lines, at):
    """The key and the derivation of a goal, the latter None if there are none."""
    if at >= len(lines) or len(lines[at]) < 3 or lines[at][0] != "goal" or lines[at][2] != ":":
        return (None, None)
    key = _told_of(lines[at][1])
    if not is_key_form(key):
        return (None, None)
    return (key, _derivation_of(lines[at][3:]))


def _head_of(words):
    """The step of a first line, without papers and rows of an order, and how many there are of these and of those.

    The step is None if this line cannot stand.
    """
    row_count, paper_count = 0, 0
    step = None
    if words[0] in ("witness", "dominate") and len(words) > 1:
        paper_count = _number_of(words[1])
        first, behind = _parted(words[2:])
        step = (words[0], _row_of(MOST_VARIABLES, first), _images_of(behind), {})
    elif words[0] == "leave" and len(words) > 3 and words[3] == ":":
        paper_count = _number_of(words[2])
        step = ("leave", _number_of(words[1]), _images_of(words[4:]), {})
    elif words[0] == "order" and len(words) > 3 and words[3] == ":":
        paper_count, row_count = _number_of(words[1]), _number_of(words[2])
        step = ("order", (_numbers_of(words[4:]), ()), {})
    else:
        step = _short_step(words)
    if not is_step_form(step) or not is_id(paper_count) or not is_number_between(0, row_count, MOST_ORDER_ROWS):
        return (None, 0, 0)
    return (step, row_count, paper_count)


def _short_step(words):
    """The step without papers that has these words, or something that is no step."""
    word = words[0]
    if word == "derive":
        return (word, _derivation_of(words[1:]))
    if word == "follow":
        return (word, _row_of(MOST_VARIABLES, words[1:]))
    if word == "refute":
        first, behind = _parted(words[1:])
        return (word, _row_of(MOST_VARIABLES, first), _derivation_of(behind))
    if word in ("plan", "core"):
        return (word, _numbers_of(words[1:]))
    return tuple([word]) + _numbers_of(words[1:])


def _parted(words):
    """The words ahead of the first colon and those behind it; none if there is no colon."""
    if ":" not in words:
        return ([], [])
    place = words.index(":")
    return (words[:place], words[place + 1:])


def _images_of(words):
    return tuple([word if word in ("yes", "no") else _number_of(word) for word in words])
