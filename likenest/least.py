"""The least terms of classes by costs, and potentials that show them so: points 100 and 101 of the document."""

from likenest.errors import NoCosts, NotKnown
from likenest.patterns import rows_by_class
from likenest.terms import check_term, is_whole, makes_term

MOST_COST = 99


def costs_for(signs, costs):
    """The cost of each sign, 1 where none are told; refused are what are no costs."""
    if costs is None:
        return (1,) * len(signs)
    if not isinstance(costs, tuple) or len(costs) != len(signs):
        raise NoCosts()
    if not all([is_whole(cost) and 1 <= cost <= MOST_COST for cost in costs]):
        raise NoCosts()
    return costs


def class_rows(signs, classes):
    """For each known term, those with the same once, its class, its sign and its parts' classes, by numbers: a list."""
    rows = rows_by_class(signs, classes)
    return [(number, sign, parts) for sign, number in rows for parts in rows[(sign, number)]]


def weighed(costs, term):
    """What the least of terms goes by: the cost, then the order of terms."""
    return (sum([costs[number] for number in term]), len(term), term)


def joined_term(sign, parts):
    """The term of a sign with these parts."""
    term = (sign,)
    for part in parts:
        term = term + part
    return term


def least_terms(signs, classes, costs):
    """For each class its least term, known or not, as weighed tells it: a list.

    A known term is of at most thirty numbers, so the least of its class never costs more than that one; from there
    each class is made less by what is less in others, till none is.
    """
    lowest = [min([weighed(costs, term) for term in terms]) for terms in classes]
    rows = class_rows(signs, classes)
    lessened = True
    while lessened:
        lessened = False
        for number, sign, parts in rows:
            made = weighed(costs, joined_term(sign, [lowest[part][2] for part in parts]))
            if made < lowest[number]:
                lowest[number] = made
                lessened = True
    return lowest


def least(nest, term, *, costs=None):
    """The least cost of all terms alike to a known term, with the first in order that costs so."""
    signs = nest.signs()
    check_term(signs, term)
    classes = nest.classes()
    numbers = [number for number, terms in enumerate(classes) if term in terms]
    if not numbers:
        raise NotKnown(term)
    cost, many, found = least_terms(signs, classes, costs_for(signs, costs))[numbers[0]]
    return (cost, found)


def potentials(nest, *, costs=None):
    """For each class, in order, its first term and its least cost: a tuple."""
    signs = nest.signs()
    told = costs_for(signs, costs)
    classes = nest.classes()
    lowest = least_terms(signs, classes, told)
    return tuple([(terms[0], weight[0]) for terms, weight in zip(classes, lowest)])


def is_potential(signs, terms, thing):
    """Whether it is, of anything, a tuple of the first of these terms and a whole number from 0 on."""
    if not isinstance(thing, tuple) or len(thing) != 2:
        return False
    # A truth equals a number to Python, so the first term must be a term by itself, too.
    if not makes_term(signs, thing[0]) or thing[0] != terms[0]:
        return False
    return is_whole(thing[1]) and thing[1] >= 0


def are_potentials(nest, thing, *, costs=None):
    """Whether they are potentials of the classes, of anything."""
    signs = nest.signs()
    told = costs_for(signs, costs)
    classes = nest.classes()
    if not isinstance(thing, tuple) or len(thing) != len(classes):
        return False
    if not all([is_potential(signs, terms, one) for terms, one in zip(classes, thing)]):
        return False
    for number, sign, parts in class_rows(signs, classes):
        if thing[number][1] > told[sign] + sum([thing[part][1] for part in parts]):
            return False
    return True
