"""Point 2 for the functions of terms: nothing is changed or kept, answers stay, arguments go by place or name."""

import copy
import inspect
import unittest

from helper import A, B, F, G, SIGNS, odd_things
from likenest import terms

TERM = (F, G, A, B)
ARGUMENTS = {
    "are_signs": {"thing": SIGNS},
    "is_term": {"signs": SIGNS, "thing": TERM},
    "parts_of": {"signs": SIGNS, "term": TERM},
    "inner": {"signs": SIGNS, "term": TERM},
    "depth": {"signs": SIGNS, "term": TERM},
    "inner_at": {"signs": SIGNS, "term": TERM, "place": 1},
    "put": {"signs": SIGNS, "term": TERM, "place": 1, "other": (F, A, A)},
    "in_order": {"signs": SIGNS, "terms": [TERM, (B,), (A,), (B,)]},
}
ANSWERS = {
    "are_signs": True,
    "is_term": True,
    "parts_of": [(G, A), (B,)],
    "inner": [(A,), (B,), (G, A), TERM],
    "depth": 3,
    "inner_at": (G, A),
    "put": (F, F, A, A, B),
    "in_order": [(A,), (B,), (B,), TERM],
}


class Common(unittest.TestCase):
    def test_by_place_and_by_name(self):
        for name, told in ARGUMENTS.items():
            function = getattr(terms, name)
            self.assertEqual(list(inspect.signature(function).parameters), list(told), name)
            self.assertEqual(function(*told.values()), ANSWERS[name], name)
            self.assertEqual(function(**told), ANSWERS[name], name)
            self.assertEqual(function(**dict(reversed(told.items()))), ANSWERS[name], name)

    def test_a_list_that_is_told_is_the_asker_s_own(self):
        for name in ("parts_of", "inner", "in_order"):
            function = getattr(terms, name)
            told = function(**ARGUMENTS[name])
            self.assertIsNot(function(**ARGUMENTS[name]), told, name)
            told.append(None)
            told[0] = (A, A)
            self.assertEqual(function(**ARGUMENTS[name]), ANSWERS[name], name)

    def test_in_order_leaves_the_list_as_it_was(self):
        given = [TERM, (B,), (A,), (B,)]
        told = terms.in_order(SIGNS, given)
        self.assertEqual(given, [TERM, (B,), (A,), (B,)])
        self.assertIsNot(told, given)
        given.clear()
        self.assertEqual(told, [(A,), (B,), (B,), TERM])
        sorted_one = [(A,), (B,)]
        self.assertIsNot(terms.in_order(SIGNS, sorted_one), sorted_one)

    def test_what_is_handed_in_is_as_it_was(self):
        for thing in odd_things():
            before = copy.deepcopy(thing)
            terms.are_signs(thing)
            terms.is_term(SIGNS, thing)
            for function in (terms.parts_of, terms.inner, terms.depth, terms.in_order):
                try:
                    function(SIGNS, thing)
                except terms.NoTerm:
                    pass
            self.assertEqual(thing, before)

    def test_what_was_told_may_be_handed_in_again(self):
        parts = terms.parts_of(SIGNS, TERM)
        self.assertEqual(terms.in_order(SIGNS, parts), [(B,), (G, A)])
        self.assertEqual(terms.put(SIGNS, TERM, 0, parts[0]), (G, A))

    def test_the_answer_changes_where_the_thing_was_changed(self):
        given = [(B,), (A,)]
        self.assertEqual(terms.in_order(SIGNS, given), [(A,), (B,)])
        given[0] = (G, A)
        self.assertEqual(terms.in_order(SIGNS, given), [(A,), (G, A)])


if __name__ == "__main__":
    unittest.main()
