import copy
import re
import unittest

from factsandfar.errors import InvalidFacts
from factsandfar.facts import check_facts
from oracles import STRANGE, AlwaysEqual, NeverUsable, with_parts_changed

T, U = ("p", "1"), ("emp", "ann9")


class CheckFacts(unittest.TestCase):
    def wrong(self, candidate, index):
        with self.assertRaises(InvalidFacts) as caught:
            check_facts(candidate)
        self.assertEqual(caught.exception.index, index)

    def test_lists_and_tuples_of_distinct_facts(self):
        facts = [("concept", "a", T), ("concept", "a", U), ("concept", "b", T), ("role", "a", T, U), ("role", "a", U, T),
                 ("role", "a", T, T), ("role", "abcdefgh", ("abcdefgh", "abcdefg0"), ("z", "98765432"))]
        for count in range(len(facts) + 1):
            self.assertIsNone(check_facts(facts[:count]))
            self.assertIsNone(check_facts(tuple(facts[:count])))
        self.assertIsNone(check_facts(candidate=[]))

    def test_there_is_no_limit(self):
        facts = [("concept", "a", ("p", str(number))) for number in range(3000)]
        self.assertIsNone(check_facts(facts))
        self.wrong(facts + facts[:1], 3000)

    def test_other_kinds(self):
        for candidate in [None, True, 0, "", "fact", {}, {("concept", "a", T): 1}, set(), frozenset(), object(),
                          AlwaysEqual(), NeverUsable(), iter([]), range(1)]:
            self.wrong(candidate, None)

    def test_items_that_are_no_facts(self):
        fact = ("concept", "b", T)
        for wrong in STRANGE + [("concept", "a"), ("concept", "a", T, T), ("role", "r", T), ("role", "r", T, U, T), ("role", "r"),
                                ["concept", "a", T], ("concept", "a", list(T)), ("fact", "a", T), ("Concept", "a", T),
                                ("out", "r", T, U), ("concept", "A", T), ("concept", "a1", T), ("concept", "", T),
                                ("concept", "abcdefghi", T), ("concept", ("concept", "a"), T), (None, "a", T)]:
            self.wrong([wrong], 0)
            self.wrong((fact, wrong, fact), 1)

    def test_individuals(self):
        for wrong in STRANGE + [("p",), ("p", "1", "2"), ["p", "1"], ("P", "1"), ("p1", "1"), ("", "1"), ("p", ""), ("p", "A"),
                                ("p", "a b"), ("p", "a_"), ("p", "123456789"), ("abcdefghi", "1"), ("p", 1), ("p", None),
                                ("p", "\u0661"), ("p", "\u00b2"), ("p", "1\n"), 0, 1, "x", ("p", ("p", "1"))]:
            self.wrong([("concept", "a", wrong)], 0)
            self.wrong([("role", "r", wrong, T)], 0)
            self.wrong([("role", "r", T, wrong)], 0)

    def test_equal_items(self):
        one, other = ("role", "r", T, U), ("role", "r", U, T)
        self.wrong([one, one], 1)
        self.wrong([one, other, one, other], 2)
        self.wrong((one, other, other, None), 2)
        self.wrong([one, None, one], 1)

    def test_one_part_changed(self):
        facts = [("concept", "a", T), ("role", "r", T, U)]
        for candidate in with_parts_changed(facts):
            try:
                check_facts(candidate)
                right = True
            except InvalidFacts:
                right = False
            self.assertEqual(right, self.are_facts(candidate), candidate)

    def are_facts(self, candidate):
        return (type(candidate) in (list, tuple) and all(self.is_fact(item) for item in candidate)
                and len(set(candidate)) == len(candidate))

    def is_fact(self, item):
        """By the text of the value, which shows all kinds but those of strange objects."""
        individual = r"\('[a-z]{1,8}', '[a-z0-9]{1,8}'\)"
        fact = rf"\(('concept', '[a-z]{{1,8}}', |'role', '[a-z]{{1,8}}', {individual}, ){individual}\)"
        return re.fullmatch(fact, repr(item)) is not None

    def test_the_argument_does_not_change(self):
        facts = [("concept", "a", T), ["concept"]]
        before = copy.deepcopy(facts)
        self.wrong(facts, 1)
        self.assertEqual(facts, before)


if __name__ == "__main__":
    unittest.main()
