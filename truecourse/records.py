"""RECORDS: runs written as texts of lines that are checked one by one, and read."""

from math import gcd

from truecourse.boxes import is_box
from truecourse.checks import is_order, is_step_length
from truecourse.errors import BadRecord, BadText, InvalidMany, InvalidText, TooMany
from truecourse.exact import text_of_ratio
from truecourse.kinds import is_integer
from truecourse.polys import are_names
from truecourse.polytexts import parse_poly, text_of_poly
from truecourse.ratios import digits_end
from truecourse.runs import check_run, first_ahead, is_paper_behind, looks_carried
from truecourse.settings import MOST_PAPERS

_CHECKED = 9973
_MOST_DIGITS = 40


def _check_of(number, body):
    total = number % _CHECKED
    for character in body:
        total = (31 * total + ord(character)) % _CHECKED
    return total


def line_check(number, body):
    if not is_integer(number) or number < 1:
        raise InvalidMany(number)
    if not isinstance(body, str):
        raise InvalidText(body)
    return _check_of(number, body)


def _line(number, body):
    return f"{len(body)} {_check_of(number, body)} {body}"


def _box_body(word, box):
    return word + "".join([f" {low} {high}" for low, high in box])


def _ratios_body(word, ratios):
    return " ".join([word] + [text_of_ratio(ratio) for ratio in ratios])


def _set_bodies(affine):
    _, middle, matrix, box = affine
    bodies = [_ratios_body("middle", middle)]
    bodies.extend([_ratios_body("row", row) for row in matrix])
    bodies.append(_box_body("within", box))
    return bodies


def _paper_bodies(paper):
    _, begin, step, many, held, end = paper
    bodies = [f"step {step} {many}"]
    if looks_carried(paper):
        bodies.extend(_set_bodies(begin))
        bodies.append(_box_body("held", held))
        bodies.extend(_set_bodies(end))
        return bodies
    return bodies + [_box_body("from", begin), _box_body("held", held), _box_body("to", end)]


def _bodies(run):
    _, system, start, papers = run
    _, names, polys = system
    is_set = len(papers) > 0 and looks_carried(papers[0])
    bodies = ["run set" if is_set else "run box", " ".join(("letters",) + names)]
    bodies.extend(["slope " + text_of_poly(poly, names) for poly in polys])
    bodies.append(_box_body("start", start))
    for paper in papers:
        bodies.extend(_paper_bodies(paper))
    bodies.append(f"done {len(papers)}")
    return bodies


def text_of_run(run):
    """The record of a run that is known to be one."""
    return "".join([_line(k, body) + "\n" for k, body in enumerate(_bodies(run), start=1)])


def record_text(run):
    check_run(run)
    return text_of_run(run)


def _integer_read(word):
    """The INTEGER that a word tells, None if it tells none, or not as such are written."""
    begin = 1 if word[:1] == "-" else 0
    digits = len(word) - begin
    if not 1 <= digits <= _MOST_DIGITS or digits_end(word, begin) < len(word):
        return None
    if word[begin] == "0" and word != "0":
        return None
    return int(word)


def _ratio_read(word):
    """The RATIO that a word tells, None likewise."""
    first, slash, second = word.partition("/")
    number = _integer_read(first)
    if slash == "" or number is None:
        return None if number is None else (number, 1)
    under = _integer_read(second)
    if under is None or under < 2 or gcd(number, under) != 1:
        return None
    return (number, under)


def _poly_read(text, names):
    """The POLY whose text it is, None if it is that of none."""
    try:
        poly = parse_poly(text, names)
    except (BadText, TooMany):
        return None
    return poly if text_of_poly(poly, names) == text else None


def _box_read(words, letters):
    """The box of so many intervals that some words tell, None if they tell none."""
    ends = [_integer_read(word) for word in words]
    if len(ends) != 2 * letters or None in ends:
        return None
    box = tuple([(ends[2 * k], ends[2 * k + 1]) for k in range(letters)])
    return box if is_box(box) else None


class Reader:
    """Takes the bodies of a record, line by line, as long as they are good."""

    def __init__(self):
        self.wanted = ["run", "letters"]
        self.is_set = False
        self.letters = ()
        self.slopes = []
        self.start = None
        # The papers read so far, and what the next one must begin with.
        self.found = []
        self.ahead = None
        # The step, the order and the other parts of the paper that is being read.
        self.head = ()
        self.parts = []
        self.is_done = False

    def system_read(self):
        return ("system", self.letters, tuple(self.slopes))

    def run_read(self):
        return ("run", self.system_read(), self.start, tuple(self.found))

    def takes(self, body):
        """Whether the body can stand here; what it tells is kept then."""
        word, _, rest = body.partition(" ")
        if self.is_done:
            return False
        if not self.wanted:
            return self.takes_between(word, rest)
        if word != self.wanted[0]:
            return False
        self.wanted = self.wanted[1:]
        if word == "run":
            self.is_set = rest == "set"
            return rest == "set" or rest == "box"
        if word == "letters":
            return self.takes_letters(tuple(rest.split(" ")))
        if word == "slope":
            return self.takes_slope(rest)
        if word == "start":
            return self.takes_start(rest)
        return self.takes_part(word, rest)

    def takes_letters(self, names):
        self.letters = names
        self.wanted = ["slope"] * len(names) + ["start"]
        return are_names(names)

    def takes_slope(self, text):
        poly = _poly_read(text, self.letters)
        self.slopes.append(poly)
        return poly is not None

    def takes_start(self, rest):
        self.start = _box_read(rest.split(" "), len(self.letters))
        if self.start is None:
            return False
        self.ahead = first_ahead(self.start, self.is_set)
        return True

    def takes_between(self, word, rest):
        """Behind the start, and behind each paper, one more paper begins, or the record ends."""
        numbers = [_integer_read(part) for part in rest.split(" ")]
        if word == "step" and len(self.found) < MOST_PAPERS:
            self.head = tuple(numbers)
            self.parts = []
            self.wanted = self.lines_of_paper()
            return len(numbers) == 2 and is_step_length(numbers[0]) and is_order(numbers[1])
        if word == "done" and numbers == [len(self.found)]:
            self.is_done = len(self.found) > 0 or not self.is_set
        return self.is_done

    def lines_of_paper(self):
        if not self.is_set:
            return ["from", "held", "to"]
        lines = ["middle"] + ["row"] * len(self.letters) + ["within"]
        return lines + ["held"] + lines

    def takes_part(self, word, rest):
        """A line of a paper; behind the last one the paper must be right."""
        words = rest.split(" ")
        if word == "middle" or word == "row":
            told = tuple([_ratio_read(part) for part in words])
            if len(told) != len(self.letters) or None in told:
                return False
        else:
            told = _box_read(words, len(self.letters))
            if told is None:
                return False
        self.parts.append(told)
        return len(self.wanted) > 0 or self.takes_paper()

    def paper_read(self):
        step, many = self.head
        if not self.is_set:
            begin, held, end = self.parts
            return ("step", begin, step, many, held, end)
        length = len(self.letters) + 2
        held = self.parts[length]
        begin = self.set_read(self.parts[:length])
        return ("carried", begin, step, many, held, self.set_read(self.parts[length + 1:]))

    def set_read(self, parts):
        return ("set", parts[0], tuple(parts[1:-1]), parts[-1])

    def takes_paper(self):
        paper = self.paper_read()
        if not is_paper_behind(self.system_read(), self.ahead, self.is_set, paper):
            return False
        self.found.append(paper)
        self.ahead = paper[5]
        return True


def _read(text):
    """The reader of the good lines, and the number of the first one that isn't good or lacks.

    This is None of a whole record.
    """
    reader = Reader()
    lines = text.split("\n")
    for k, line in enumerate(lines[:-1], start=1):
        body = line.partition(" ")[2].partition(" ")[2]
        if line != _line(k, body) or not reader.takes(body):
            return (reader, k)
    if lines[-1] != "" or not reader.is_done:
        return (reader, len(lines))
    return (reader, None)


def parse_record(text):
    if not isinstance(text, str):
        raise BadRecord(0)
    reader, wrong = _read(text)
    if wrong is not None:
        raise BadRecord(wrong)
    return reader.run_read()


def good_part(text):
    if not isinstance(text, str):
        return None
    reader, _ = _read(text)
    return None if reader.start is None else reader.run_read()
