"""Patterns, rules, and the matches of a pattern: points 80 and 81 of the document."""

from likenest.errors import NoPattern, NoRules
from likenest.terms import check_signs, is_whole, split_term

MOST_LETTERS = 3
MOST_ROW = 12
MOST_RULES = 6


def is_row(signs, thing, letters):
    """Whether it is a row of one to twelve numbers that is a term but for so many letters, of anything."""
    if not isinstance(thing, tuple) or not 1 <= len(thing) <= MOST_ROW:
        return False
    wanted = 1
    for number in thing:
        if wanted == 0 or not is_whole(number) or not -letters <= number < len(signs):
            return False
        wanted -= 1
        if number >= 0:
            wanted += signs[number][1]
    return wanted == 0


def in_turn(row):
    """Whether the letters of a row first stand in their turn, with none left out."""
    letters = 0
    for number in row:
        if number < -letters - 1:
            return False
        letters = max(letters, -number)
    return True


def letters_of(pattern):
    """How many letters a pattern has."""
    return max(0, -min(pattern))


def makes_pattern(signs, thing):
    """Whether it is a pattern of what is known to be signs, of anything."""
    return is_row(signs, thing, MOST_LETTERS) and in_turn(thing)


def makes_rule(signs, thing):
    """Whether it is a rule of what is known to be signs, of anything."""
    if not isinstance(thing, tuple) or len(thing) != 2:
        return False
    left, right = thing
    if not makes_pattern(signs, left) or left[0] < 0:
        return False
    return is_row(signs, right, letters_of(left))


def make_rules(signs, thing):
    """Whether they are rules of what is known to be signs, of anything."""
    if not isinstance(thing, tuple) or len(thing) > MOST_RULES:
        return False
    return all([makes_rule(signs, rule) for rule in thing])


def is_pattern(signs, thing):
    """Whether it is a pattern of the signs, of anything."""
    check_signs(signs)
    return makes_pattern(signs, thing)


def are_rules(signs, thing):
    """Whether they are rules of the signs, of anything."""
    check_signs(signs)
    return make_rules(signs, thing)


def check_rules(signs, rules):
    """Refuse what are no rules of what is known to be signs."""
    if not make_rules(signs, rules):
        raise NoRules()


def filled(row, terms):
    """A row with a term put in the place of each letter."""
    numbers = []
    for number in row:
        if number < 0:
            numbers.extend(terms[-number - 1])
        else:
            numbers.append(number)
    return tuple(numbers)


def rows_by_class(signs, classes):
    """For each sign's number and class the classes of the parts of its terms, each once: a dict of dicts."""
    class_of = {term: number for number, terms in enumerate(classes) for term in terms}
    rows = {}
    for term in class_of:
        place = (term[0], class_of[term])
        if place not in rows:
            rows[place] = {}
        rows[place][tuple([class_of[part] for part in split_term(signs, term)])] = True
    return rows


def bound(letter, number, binding):
    """The bindings, one or none, in which a letter (from 0) is the class of that number, too.

    Letters stand in their turn, so one that isn't bound yet is the next.
    """
    if letter == len(binding):
        return [binding + (number,)]
    return [binding] if binding[letter] == number else []


def fits(rows, part, number, binding):
    """The bindings that make a part of a pattern, a tree, the class of that number, each holding to a binding."""
    head, parts = part
    if head < 0:
        return bound(-head - 1, number, binding)
    found = []
    for classes in rows.get((head, number), {}):
        bindings = [binding]
        for inside, wanted in zip(parts, classes):
            bindings = [longer for held in bindings for longer in fits(rows, inside, wanted, held)]
        found.extend(bindings)
    return found


def tree_of(signs, pattern):
    """The tree (number, list of trees) of a pattern."""
    trees = []
    # From the right, so that the parts of a place stand last, the first of them at the very end.
    for number in reversed(pattern):
        parts = []
        if number >= 0:
            parts = [trees.pop() for part in range(signs[number][1])]
        trees.append((number, parts))
    return trees[0]


def matches(nest, pattern):
    """All matches of a pattern in a book, or in rounds: a rising list."""
    signs = nest.signs()
    if not makes_pattern(signs, pattern):
        raise NoPattern()
    classes = nest.classes()
    rows = rows_by_class(signs, classes)
    tree = tree_of(signs, pattern)
    found = []
    for number in range(len(classes)):
        for binding in fits(rows, tree, number, ()):
            found.append(tuple([classes[place][0] for place in (number,) + binding]))
    return sorted(found)
