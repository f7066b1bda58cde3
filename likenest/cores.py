"""Givens of which none can be left out, with papers for it: point 60 of the document."""

from likenest.closure import Closure
from likenest.errors import NotAlike
from likenest.lines import are_lines_for, closure_lines, is_below
from likenest.models import closure_model, is_model
from likenest.terms import check_givens, check_signs, check_two, gathered


def without(numbers, number):
    """The numbers but that one: a tuple."""
    return tuple([left for left in numbers if left != number])


def closure_by(signs, givens, numbers, pair):
    """The closure of a pair of terms by the givens of these numbers alone."""
    terms = list(pair)
    links = []
    for number in numbers:
        one, other = givens[number]
        terms.extend([one, other])
        links.append((one, other, ("given", number)))
    return Closure(signs, gathered(signs, (), terms), links)


def lead_to(signs, givens, numbers, pair):
    """Whether the two of a pair are alike by the givens of these numbers alone."""
    one, other = pair
    return closure_by(signs, givens, numbers, pair).are_alike(one, other)


def core_numbers(signs, givens, pair):
    """What stays of the numbers of all givens where each one that can be left out is, from the last one on: a tuple."""
    numbers = tuple(range(len(givens)))
    for number in range(len(givens) - 1, -1, -1):
        fewer = without(numbers, number)
        if lead_to(signs, givens, fewer, pair):
            numbers = fewer
    return numbers


def core(book, one, other):
    """A paper (numbers, lines, models) of the core of two terms, known or not, that are alike."""
    # To ask whether they are alike refuses what is no term.
    if not book.alike(one, other):
        raise NotAlike(one, other)
    signs = book.signs()
    givens = book.givens()
    pair = (one, other)
    numbers = core_numbers(signs, givens, pair)
    lines = closure_lines(closure_by(signs, givens, numbers, pair), one, other)
    models = [closure_model(signs, closure_by(signs, givens, without(numbers, number), pair)) for number in numbers]
    return (numbers, lines, tuple(models))


def are_numbers(thing, many):
    """Whether it is a rising tuple of numbers of so many givens, of anything."""
    if not isinstance(thing, tuple) or not all([is_below(number, many) for number in thing]):
        return False
    return all([thing[place - 1] < thing[place] for place in range(1, len(thing))])


def name_only(lines, numbers):
    """Whether what are known to be lines name no given but those of the numbers."""
    return all([line[0] != "given" or line[1] in numbers for line in lines])


def are_models(signs, givens, numbers, pair, thing):
    """Whether it is, of anything, a tuple with for each number a model of the others in which the two differ."""
    if not isinstance(thing, tuple) or len(thing) != len(numbers):
        return False
    for number, model in zip(numbers, thing):
        others = tuple([givens[left] for left in without(numbers, number)])
        if not is_model(signs, others, model, unlikes=(pair,)):
            return False
    return True


def is_core(signs, givens, one, other, thing):
    """Whether it is, of anything, a paper for two terms, of numbers of givens of which none can be left out."""
    check_signs(signs)
    check_givens(signs, givens)
    check_two(signs, one, other)
    if not isinstance(thing, tuple) or len(thing) != 3:
        return False
    numbers, lines, models = thing
    if not are_numbers(numbers, len(givens)) or not are_lines_for(signs, givens, lines, one, other):
        return False
    return name_only(lines, numbers) and are_models(signs, givens, numbers, (one, other), models)
