"""Signs, and the ground terms that they make: points 10 to 12 of the document."""

from likenest.errors import NoGivens, NoPlace, NoSigns, NoTerm, TooMany

MOST_SIGNS = 8
MOST_LETTERS = 6
MOST_PARTS = 3
MOST_NUMBERS = 30
MOST_PAIRS = 60


def is_whole(thing):
    """Whether it is a whole number; truths are ints to Python, but none here."""
    return isinstance(thing, int) and not isinstance(thing, bool)


def is_name(thing):
    """Whether it may be a sign's name."""
    if not isinstance(thing, str) or not 1 <= len(thing) <= MOST_LETTERS:
        return False
    return all(["a" <= letter <= "z" for letter in thing])


def is_sign(thing):
    """Whether it is a tuple of a name and how many parts it has."""
    if not isinstance(thing, tuple) or len(thing) != 2:
        return False
    name, parts = thing
    return is_name(name) and is_whole(parts) and 0 <= parts <= MOST_PARTS


def are_signs(thing):
    """Whether it is signs, of anything."""
    if not isinstance(thing, tuple) or not 1 <= len(thing) <= MOST_SIGNS:
        return False
    if not all([is_sign(sign) for sign in thing]):
        return False
    if len(set([name for name, parts in thing])) != len(thing):
        return False
    return any([parts == 0 for name, parts in thing])


def check_signs(signs):
    """Refuse what is no signs."""
    if not are_signs(signs):
        raise NoSigns()


def makes_term(signs, thing):
    """Whether it is a term of what is known to be signs, of anything."""
    if not isinstance(thing, tuple) or not 1 <= len(thing) <= MOST_NUMBERS:
        return False
    wanted = 1
    for number in thing:
        if wanted == 0 or not is_whole(number) or not 0 <= number < len(signs):
            return False
        wanted += signs[number][1] - 1
    return wanted == 0


def check_term(signs, term, at=0):
    """Refuse what is no term of what is known to be signs, as the one at that place of the call."""
    if not makes_term(signs, term):
        raise NoTerm(at)


def check_two(signs, one, other):
    """Refuse what are no two terms of what is known to be signs, at 0 and 1."""
    check_term(signs, one, 0)
    check_term(signs, other, 1)


def is_pair(signs, thing):
    """Whether it is a tuple of two terms of what is known to be signs, of anything."""
    if not isinstance(thing, tuple) or len(thing) != 2:
        return False
    return makes_term(signs, thing[0]) and makes_term(signs, thing[1])


def are_pairs(signs, thing):
    """Whether it is such a tuple of pairs as givens and unlikes are handed in by, of anything."""
    if not isinstance(thing, tuple) or len(thing) > MOST_PAIRS:
        return False
    return all([is_pair(signs, pair) for pair in thing])


def check_givens(signs, givens):
    """Refuse what is no tuple of givens of what is known to be signs."""
    if not are_pairs(signs, givens):
        raise NoGivens()


def check_place(term, place):
    """Refuse what is no place of a term."""
    if not is_whole(place) or not 0 <= place < len(term):
        raise NoPlace()


def is_term(signs, thing):
    """Whether it is a term of the signs, of anything."""
    check_signs(signs)
    return makes_term(signs, thing)


def ends_of(signs, term):
    """For each place of a term the place behind the inner term that begins there."""
    ends = [0] * len(term)
    # From the right, so that the ends of a place's parts stand when it needs them.
    for place in range(len(term) - 1, -1, -1):
        end = place + 1
        for part in range(signs[term[place]][1]):
            end = ends[end]
        ends[place] = end
    return ends


def part_places(signs, term, ends, place):
    """The places where the parts of the inner term begin that begins at a place."""
    places = []
    begin = place + 1
    for part in range(signs[term[place]][1]):
        places.append(begin)
        begin = ends[begin]
    return places


def split_term(signs, term):
    """The parts of what is known to be a term, in their order: a list."""
    ends = ends_of(signs, term)
    return [term[begin:ends[begin]] for begin in part_places(signs, term, ends, 0)]


def parts_of(signs, term):
    """The parts of a term, in their order: a list."""
    check_signs(signs)
    check_term(signs, term)
    return split_term(signs, term)


def order_key(term):
    """What terms of the same signs are put in order by: fewer numbers first, then as tuples compare."""
    return (len(term), term)


def gathered(signs, known, terms):
    """Known terms, and all inner terms of what are known to be terms, each once, in order: a list."""
    found = {term: True for term in known}
    for term in terms:
        ends = ends_of(signs, term)
        for place in range(len(term)):
            found[term[place:ends[place]]] = True
    return sorted(list(found), key=order_key)


def inner(signs, term):
    """The inner terms of a term, each once, in order: a list."""
    check_signs(signs)
    check_term(signs, term)
    return gathered(signs, (), (term,))


def depth(signs, term):
    """How deep a term is: 1 without parts, else one more than its deepest part."""
    check_signs(signs)
    check_term(signs, term)
    ends = ends_of(signs, term)
    depths = [1] * len(term)
    for place in range(len(term) - 1, -1, -1):
        for begin in part_places(signs, term, ends, place):
            depths[place] = max(depths[place], depths[begin] + 1)
    return depths[0]


def inner_at(signs, term, place):
    """The inner term that begins at a place."""
    check_signs(signs)
    check_term(signs, term)
    check_place(term, place)
    return term[place:ends_of(signs, term)[place]]


def put(signs, term, place, other):
    """The term with another one in the place of the inner term that begins at a place."""
    check_signs(signs)
    check_term(signs, term)
    check_place(term, place)
    check_term(signs, other, 1)
    made = term[:place] + other + term[ends_of(signs, term)[place]:]
    if len(made) > MOST_NUMBERS:
        raise TooMany(len(made), MOST_NUMBERS)
    return made


def in_order(signs, terms):
    """The terms of a list in order, twins too: a list."""
    check_signs(signs)
    if not isinstance(terms, list):
        raise NoTerm(0)
    for at, term in enumerate(terms):
        check_term(signs, term, at)
    return sorted(terms, key=order_key)
