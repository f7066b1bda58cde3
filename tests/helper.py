"""What several tests need: terms as trees, which know their parts without any counting, and odd things."""

SIGNS = (("a", 0), ("b", 0), ("g", 1), ("f", 2), ("h", 3))
A, B, G, F, H = range(5)


def trees(signs, size):
    """All trees (sign's number, part, part ..) with just so many numbers."""
    found = []
    for number, (name, parts) in enumerate(signs):
        found += [(number,) + row for row in rows(signs, parts, size - 1)]
    return found


def rows(signs, many, size):
    """All tuples of so many trees with together just so many numbers."""
    if many == 0:
        return [()] if size == 0 else []
    found = []
    for first in range(1, size + 1):
        found += [(tree,) + rest for tree in trees(signs, first) for rest in rows(signs, many - 1, size - first)]
    return found


def flat(tree):
    """The term of a tree."""
    return tree[:1] + tuple(number for part in tree[1:] for number in flat(part))


def within(tree):
    """The inner trees of a tree in the order in which they begin."""
    return [tree] + [inside for part in tree[1:] for inside in within(part)]


def trees_to(size, signs=SIGNS):
    return [tree for many in range(1, size + 1) for tree in trees(signs, many)]


def terms_to(size, signs=SIGNS):
    return [flat(tree) for tree in trees_to(size, signs)]


def ahead(one, other):
    """Whether one term is ahead of the other, number by number."""
    if len(one) != len(other):
        return len(one) < len(other)
    for mine, theirs in zip(one, other):
        if mine != theirs:
            return mine < theirs
    return False


def chain(numbers):
    """g(g(..a)) with so many numbers."""
    return (G,) * (numbers - 1) + (A,)


def nested(kind, deep):
    """A thing so deep, of lists, tuples or dicts."""
    thing = 0
    for level in range(deep):
        thing = {list: [thing], tuple: (thing,), dict: {"a": thing}}[kind]
    return thing


def odd_things():
    """Things of every kind that are neither signs nor terms of any signs, made anew each time."""
    return [
        None, True, False, 0, 1, 7, -1, 10 ** 39, -(10 ** 39), "", "a", "0", "a/0", "x" * 4000, "A b\t~\n",
        [], (), {}, [0], [[0]], [("a", 0)], {0: 0}, {"a": 0}, {(): ()}, [None], (None,), (True,), (False,), ("a",),
        ("a", 0), ("a", None), ((),), ([],), ({},), ((0,),), ([0],), (("a",),), ({"a": 0},), (0, None), (0, "a"),
        (10 ** 39,), (-1,), nested(list, 12), nested(tuple, 12), nested(dict, 12), (nested(list, 11),),
        [0] * 60000, (0,) * 60000, (("a", 0),) * 20000, ((),) * 50000, {place: (0,) for place in range(20000)},
    ]
