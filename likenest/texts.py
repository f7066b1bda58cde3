"""Signs, terms, pairs and lines as texts, written and read: point 110 of the document."""

from likenest.errors import NoLines, NoText
from likenest.lines import MOST_LINES, has_form, is_below
from likenest.terms import are_signs, check_signs, check_term, check_two, is_whole, makes_term

MOST_FIGURES = 40
MOST_TERMS = 3


def written_term(signs, term):
    """What is known to be a term, written."""
    texts = []
    # From the right, so that the texts of a place's parts stand last, the first of them at the very end.
    for number in reversed(term):
        name, many = signs[number]
        parts = [texts.pop() for part in range(many)]
        texts.append(name + "(" + ",".join(parts) + ")" if parts else name)
    return texts[0]


def signs_text(signs):
    """Signs, written."""
    check_signs(signs)
    return " ".join([f"{name}/{parts}" for name, parts in signs])


def term_text(signs, term):
    """A term, written."""
    check_signs(signs)
    check_term(signs, term)
    return written_term(signs, term)


def pair_text(signs, one, other):
    """A pair of terms, written."""
    check_signs(signs)
    check_two(signs, one, other)
    return written_term(signs, one) + " = " + written_term(signs, other)


def number_words(signs, numbers):
    """Numbers, each written, None where one is no whole number from 0 on: a list."""
    if not all([is_whole(number) and number >= 0 for number in numbers]):
        return None
    return [str(number) for number in numbers]


def term_words(signs, terms):
    """Terms, each written, None where one is none: a list."""
    if not all([makes_term(signs, term) for term in terms]):
        return None
    return [written_term(signs, term) for term in terms]


def both_words(words, more):
    """Words and more of them, None where there are none of either: a list."""
    return None if words is None or more is None else words + more


def parts_words(signs, told):
    """A sign's name and the numbers of as many lines as it has parts, written, None where one is none: a list."""
    sign, numbers = told
    if not is_below(sign, len(signs)) or not isinstance(numbers, tuple) or len(numbers) != signs[sign][1]:
        return None
    return both_words([signs[sign][0]], number_words(signs, numbers))


def rule_words(signs, told):
    """A rule's number and none to three terms, written, None where one is none: a list."""
    number, terms = told
    if not isinstance(terms, tuple) or len(terms) > MOST_TERMS:
        return None
    return both_words(number_words(signs, (number,)), term_words(signs, terms))


WRITTEN = {
    "self": term_words,
    "given": number_words,
    "turned": number_words,
    "joined": number_words,
    "parts": parts_words,
    "rule": rule_words,
}


def line_text(signs, line):
    """A line, written, None where it is none by itself, of anything."""
    if not has_form(line):
        return None
    write = WRITTEN[line[0]]
    words = both_words([line[0]], write(signs, line[1:]))
    return None if words is None else " ".join(words)


def lines_text(signs, lines):
    """Lines, written one by one."""
    check_signs(signs)
    if not isinstance(lines, tuple) or not 1 <= len(lines) <= MOST_LINES:
        raise NoLines()
    rows = [line_text(signs, line) for line in lines]
    if any([row is None for row in rows]):
        raise NoLines()
    return "\n".join(rows)


def number_of(word):
    """The number of a word of figures without a nought ahead, None where it is none."""
    if not 1 <= len(word) <= MOST_FIGURES or not all(["0" <= figure <= "9" for figure in word]):
        return None
    return None if word[0] == "0" and len(word) > 1 else int(word)


def term_of(signs, word):
    """The term of a word, None where it is none."""
    names = [name for name, parts in signs]
    found = [name for name in word.replace("(", " ").replace(",", " ").replace(")", " ").split(" ") if name != ""]
    if not all([name in names for name in found]):
        return None
    term = tuple([names.index(name) for name in found])
    # The names tell the term; only where it is written in just this way is the word one.
    return term if makes_term(signs, term) and written_term(signs, term) == word else None


def tuple_or_none(found):
    """What was found as a tuple, None where a thing in it is None."""
    return None if any([thing is None for thing in found]) else tuple(found)


def told_numbers(signs, words):
    """The numbers of words, None where one is none: a tuple."""
    return tuple_or_none([number_of(word) for word in words])


def told_terms(signs, words):
    """The terms of words, None where one is none: a tuple."""
    return tuple_or_none([term_of(signs, word) for word in words])


def told_parts(signs, words):
    """The sign and the numbers of a line `parts`, None where one is none: a tuple."""
    names = [name for name, parts in signs]
    if len(words) == 0 or words[0] not in names or len(words) - 1 != signs[names.index(words[0])][1]:
        return None
    return tuple_or_none([names.index(words[0]), told_numbers(signs, words[1:])])


def told_rule(signs, words):
    """The number and the terms of a line `rule`, None where one is none: a tuple."""
    if not 1 <= len(words) <= MOST_TERMS + 1:
        return None
    return tuple_or_none([number_of(words[0]), told_terms(signs, words[1:])])


TOLD = {
    "self": told_terms,
    "given": told_numbers,
    "turned": told_numbers,
    "joined": told_numbers,
    "parts": told_parts,
    "rule": told_rule,
}


def line_of(signs, row):
    """The line of a row, None where it is none by itself."""
    words = row.split(" ")
    if words[0] not in TOLD:
        return None
    read = TOLD[words[0]]
    told = read(signs, words[1:])
    if told is None:
        return None
    line = (words[0],) + told
    return line if has_form(line) else None


def check_text(text):
    """Refuse what is no text."""
    if not isinstance(text, str):
        raise NoText(0)


def read_signs(text):
    """The signs that are so written."""
    check_text(text)
    signs = []
    for word in text.split(" "):
        name, slash, parts = word.partition("/")
        signs.append((name, number_of(parts)))
    if not are_signs(tuple(signs)):
        raise NoText(1)
    return tuple(signs)


def read_term(signs, text):
    """The term that is so written."""
    check_signs(signs)
    check_text(text)
    term = term_of(signs, text)
    if term is None:
        raise NoText(1)
    return term


def read_pair(signs, text):
    """The pair of terms that is so written: a tuple."""
    check_signs(signs)
    check_text(text)
    pair = told_terms(signs, text.split(" = "))
    if pair is None or len(pair) != 2:
        raise NoText(1)
    return pair


def read_lines(signs, text):
    """The lines that are so written, of which each is one by itself."""
    check_signs(signs)
    check_text(text)
    lines = []
    for row, told in enumerate(text.split("\n"), start=1):
        line = line_of(signs, told)
        # No more lines than these are written, so the first one behind them is none.
        if line is None or row > MOST_LINES:
            raise NoText(row)
        lines.append(line)
    return tuple(lines)
