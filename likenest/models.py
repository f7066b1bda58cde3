"""Finite models in which givens hold and terms differ: points 40 to 43 of the document."""

from likenest.closure import book_closure
from likenest.errors import NoModel, NoUnlikes
from likenest.lines import closure_lines
from likenest.terms import are_pairs, check_givens, check_signs, check_term, check_two, is_whole

MOST_THINGS = 300


def is_thing(size, thing):
    """Whether it is one of the things of a model of that size, of anything."""
    return is_whole(thing) and 0 <= thing < size


def is_entry(size, rest, many, thing):
    """Whether it is a tuple of so many parts and a worth, of anything."""
    if not isinstance(thing, tuple) or len(thing) != 2:
        return False
    parts, value = thing
    if not isinstance(parts, tuple) or len(parts) != many:
        return False
    return all([is_thing(size, part) for part in parts]) and is_thing(size, value) and value != rest


def is_table(size, rest, many, thing):
    """Whether it is the table of a sign with so many parts, of anything."""
    if not isinstance(thing, tuple) or not all([is_entry(size, rest, many, entry) for entry in thing]):
        return False
    # Rising, and no parts twice: so the parts alone rise.
    return all([thing[place - 1][0] < thing[place][0] for place in range(1, len(thing))])


def makes_model(signs, thing):
    """Whether it is a model of what is known to be signs, of anything."""
    if not isinstance(thing, tuple) or len(thing) != 3:
        return False
    size, rest, tables = thing
    if not is_whole(size) or not 1 <= size <= MOST_THINGS or not is_thing(size, rest):
        return False
    if not isinstance(tables, tuple) or len(tables) != len(signs):
        return False
    return all([is_table(size, rest, parts, table) for (name, parts), table in zip(signs, tables)])


def lookups(model):
    """For each sign a dict of its parts' worths to its own: a list."""
    size, rest, tables = model
    return [{parts: value for parts, value in table} for table in tables]


def valued(signs, rest, tables, term):
    """The worth of a term by what is looked up in the tables of lookups."""
    values = []
    # From the right, so that the worths of a place's parts stand last, the first of them at the very end.
    for number in reversed(term):
        parts = tuple([values.pop() for part in range(signs[number][1])])
        values.append(tables[number].get(parts, rest))
    return values[0]


def is_model(signs, givens, thing, *, unlikes=()):
    """Whether it is, of anything, a model of the signs in which all givens and all unlikes hold."""
    check_signs(signs)
    check_givens(signs, givens)
    if not are_pairs(signs, unlikes):
        raise NoUnlikes()
    if not makes_model(signs, thing):
        return False
    tables = lookups(thing)
    for wanted, pairs in ((True, givens), (False, unlikes)):
        for one, other in pairs:
            same = valued(signs, thing[1], tables, one) == valued(signs, thing[1], tables, other)
            if same != wanted:
                return False
    return True


def worth(signs, model, term):
    """The worth of a term in a model."""
    check_signs(signs)
    if not makes_model(signs, model):
        raise NoModel()
    check_term(signs, term)
    return valued(signs, model[1], lookups(model), term)


def closure_model(signs, closure):
    """The model with a thing for each class of a closure, in their order, and rest behind them."""
    firsts = [place for place, head in enumerate(closure.heads) if place == head]
    thing_of = {head: number for number, head in enumerate(firsts)}
    tables = [{} for sign in signs]
    for place, (sign, parts) in enumerate(closure.shapes):
        row = tuple([thing_of[closure.heads[part]] for part in parts])
        tables[sign][row] = thing_of[closure.heads[place]]
    rows = [tuple(sorted([(row, table[row]) for row in table])) for table in tables]
    return (len(firsts) + 1, len(firsts), tuple(rows))


def model_of(book):
    """A book's model."""
    return closure_model(book.signs(), book_closure(book, ()))


def answer(book, one, other):
    """The answer to two terms, known or not: ("alike", lines) or ("unlike", model)."""
    check_two(book.signs(), one, other)
    closure = book_closure(book, (one, other))
    lines = closure_lines(closure, one, other)
    if lines is None:
        return ("unlike", closure_model(book.signs(), closure))
    return ("alike", lines)
