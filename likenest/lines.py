"""Lines that show, one by one, that two terms are alike: points 30 to 32 of the document."""

from likenest.closure import book_closure
from likenest.errors import NoLines
from likenest.patterns import check_rules, filled, letters_of
from likenest.terms import check_givens, check_signs, check_two, is_whole, makes_term

MOST_LINES = 20000
MOST_SHOWN = 200


def is_below(thing, many):
    """Whether it is a whole number from 0 below so many, of anything."""
    return is_whole(thing) and 0 <= thing < many


def show_self(grounds, pairs, line):
    """The pair that a line `self` shows, None where it is none."""
    signs, givens, rules = grounds
    return (line[1], line[1]) if makes_term(signs, line[1]) else None


def show_given(grounds, pairs, line):
    """The pair that a line `given` shows, None where it is none."""
    signs, givens, rules = grounds
    return givens[line[1]] if is_below(line[1], len(givens)) else None


def show_turned(grounds, pairs, line):
    """The pair that a line `turned` shows, None where it is none."""
    if not is_below(line[1], len(pairs)):
        return None
    one, other = pairs[line[1]]
    return (other, one)


def show_joined(grounds, pairs, line):
    """The pair that a line `joined` shows, None where it is none."""
    if not is_below(line[1], len(pairs)) or not is_below(line[2], len(pairs)):
        return None
    one, middle = pairs[line[1]]
    same, other = pairs[line[2]]
    return (one, other) if middle == same else None


def show_parts(grounds, pairs, line):
    """The pair that a line `parts` shows, None where it is none."""
    signs, givens, rules = grounds
    word, sign, numbers = line
    if not is_below(sign, len(signs)) or not isinstance(numbers, tuple) or len(numbers) != signs[sign][1]:
        return None
    if not all([is_below(number, len(pairs)) for number in numbers]):
        return None
    one = (sign,)
    other = (sign,)
    for number in numbers:
        one = one + pairs[number][0]
        other = other + pairs[number][1]
    return (one, other)


def show_rule(grounds, pairs, line):
    """The pair that a line `rule` shows, None where it is none."""
    signs, givens, rules = grounds
    word, number, terms = line
    if not is_below(number, len(rules)) or not isinstance(terms, tuple):
        return None
    left, right = rules[number]
    if len(terms) != letters_of(left) or not all([makes_term(signs, term) for term in terms]):
        return None
    return (filled(left, terms), filled(right, terms))


LENGTHS = {"self": 2, "given": 2, "turned": 2, "joined": 3, "parts": 3, "rule": 3}
SHOWN = {
    "self": show_self,
    "given": show_given,
    "turned": show_turned,
    "joined": show_joined,
    "parts": show_parts,
    "rule": show_rule,
}


def has_form(line):
    """Whether it is a tuple that begins with one of the lines' words and is as long as it must be, of anything."""
    if not isinstance(line, tuple) or len(line) == 0 or not isinstance(line[0], str):
        return False
    return LENGTHS.get(line[0]) == len(line)


def show_line(grounds, pairs, line):
    """The pair that a line shows behind lines that show those pairs, None where it is no line, of anything."""
    if not has_form(line):
        return None
    show = SHOWN[line[0]]
    pair = show(grounds, pairs, line)
    if pair is None or len(pair[0]) > MOST_SHOWN or len(pair[1]) > MOST_SHOWN:
        return None
    return pair


def show_lines(grounds, lines):
    """The pairs that the lines show, a list, None where a line is none, of anything."""
    if not isinstance(lines, tuple) or not 1 <= len(lines) <= MOST_LINES:
        return None
    pairs = []
    for line in lines:
        pair = show_line(grounds, pairs, line)
        if pair is None:
            return None
        pairs.append(pair)
    return pairs


def check_grounds(signs, givens, rules):
    """Refuse what lines can't lean on."""
    check_signs(signs)
    check_givens(signs, givens)
    check_rules(signs, rules)


def led(signs, givens, lines, *, rules=()):
    """The pair that the lines lead to, None where a line is none, of anything."""
    check_grounds(signs, givens, rules)
    pairs = show_lines((signs, givens, rules), lines)
    return None if pairs is None else pairs[-1]


def are_lines_for(signs, givens, lines, one, other, *, rules=()):
    """Whether the lines, of anything, lead just to these two terms."""
    check_grounds(signs, givens, rules)
    check_two(signs, one, other)
    pairs = show_lines((signs, givens, rules), lines)
    return pairs is not None and pairs[-1] == (one, other)


def named_by(line):
    """The numbers of the lines that a line names: a tuple."""
    if line[0] == "turned" or line[0] == "joined":
        return line[1:]
    return line[2] if line[0] == "parts" else ()


def renumbered(line, numbers):
    """A line with the new numbers of the lines that it names."""
    if line[0] == "turned" or line[0] == "joined":
        return line[:1] + tuple([numbers[number] for number in line[1:]])
    if line[0] == "parts":
        return line[:2] + (tuple([numbers[number] for number in line[2]]),)
    return line


def needed_lines(lines, last):
    """What the line of that number needs, straight or by others, and that line, with numbers anew."""
    needed = [False] * last + [True]
    for number in range(last, -1, -1):
        if needed[number]:
            for named in named_by(lines[number]):
                needed[named] = True
    numbers = {}
    kept = []
    for number in range(last + 1):
        if needed[number]:
            numbers[number] = len(kept)
            kept.append(renumbered(lines[number], numbers))
    return tuple(kept)


def leaned(signs, givens, lines, *, rules=()):
    """The lean lines that come of lines which lead to a pair."""
    check_grounds(signs, givens, rules)
    pairs = show_lines((signs, givens, rules), lines)
    if pairs is None:
        raise NoLines()
    firsts = {}
    numbers = []
    for number, pair in enumerate(pairs):
        numbers.append(firsts.setdefault(pair, number))
    return needed_lines([renumbered(line, numbers) for line in lines], numbers[-1])


class Writer:
    """Lines written of a closure, each pair of places once."""

    def __init__(self, closure):
        self.closure = closure
        self.towards = self.rooted()
        self.written = []
        self.numbers = {}

    def rooted(self):
        """For each place the next one on its path to the head of its class, with the union between: a list."""
        beside = [[] for place in self.closure.heads]
        for number, (one, other, line) in enumerate(self.closure.unions):
            beside[one].append((other, number))
            beside[other].append((one, number))
        towards = [None] * len(beside)
        reached = [place for place, head in enumerate(self.closure.heads) if place == head]
        while reached:
            place = reached.pop()
            for other, number in beside[place]:
                if other != self.closure.heads[place] and towards[other] is None:
                    towards[other] = (other, place, number)
                    reached.append(other)
        return towards

    def steps_up(self, place):
        """The steps (from, to, union) from a place to the head of its class: a list."""
        steps = []
        while self.towards[place] is not None:
            steps.append(self.towards[place])
            place = steps[-1][1]
        return steps

    def path(self, one, other):
        """The steps from a place to one that is alike: a list."""
        up = self.steps_up(one)
        down = self.steps_up(other)
        while up and down and up[-1] == down[-1]:
            up.pop()
            down.pop()
        return up + [(high, low, number) for low, high, number in reversed(down)]

    def write(self, pair, line):
        """The number of the line that shows a pair of places, written now where there is none yet."""
        if pair not in self.numbers:
            self.numbers[pair] = len(self.written)
            self.written.append(line)
        return self.numbers[pair]

    def write_step(self, start, end):
        """The number of the line for two places with a union between that is written, one way about at least."""
        if (start, end) in self.numbers:
            return self.numbers[(start, end)]
        return self.write((start, end), ("turned", self.numbers[(end, start)]))

    def write_path(self, one, other):
        """The number of the line that shows two places whose path's unions are written."""
        steps = self.path(one, other)
        if not steps:
            return self.write((one, one), ("self", self.closure.ranked[one]))
        number = self.write_step(one, steps[0][1])
        for start, end, union in steps[1:]:
            number = self.write((one, end), ("joined", number, self.write_step(start, end)))
        return number

    def write_union(self, number):
        """Write the line of a union; all those ahead are written."""
        one, other, line = self.closure.unions[number]
        if line is None:
            sign, parts = self.closure.shapes[one]
            likes = self.closure.shapes[other][1]
            line = ("parts", sign, tuple([self.write_path(part, like) for part, like in zip(parts, likes)]))
        self.write((one, other), line)

    def write_lines(self, one, other):
        """Lean lines for two places that are alike."""
        unions = [number for start, end, number in self.path(one, other)]
        # The parts of a union were alike when it was made, so it needs none of those behind it.
        for number in range(max(unions, default=-1) + 1):
            self.write_union(number)
        return needed_lines(self.written, self.write_path(one, other))


def closure_lines(closure, one, other):
    """Lean lines that lead to two terms of a closure, None where they aren't alike."""
    if not closure.are_alike(one, other):
        return None
    return Writer(closure).write_lines(closure.place_of[one], closure.place_of[other])


def lines_for(book, one, other):
    """Lean lines that lead to two terms, known or not, by the book's givens, None where they aren't alike."""
    check_two(book.signs(), one, other)
    return closure_lines(book_closure(book, (one, other)), one, other)
