"""[3] Papers, and [2]: values are copied, none changes, and none equals a value of another class."""

import inspect
import unittest

from littlewebs import papers
from littlewebs.papers import Denial, Paper, fixed
from tests.values import ANY, INTEGERS, OTHERS, TRUTHS

KINDS = (Paper, Denial)


class Note(Paper):
    """A class of papers, as later modules have them."""


class Refusal(Denial):
    """A class of denials, as later modules have them."""


class Examples(unittest.TestCase):
    def test_of_the_interface(self):
        told = [
            fixed([1, [None, (2, [])], "a"]), bool(Paper("note", [1])), bool(Denial("note")),
            Paper("note", [1]) == Paper("note", (1,)), Paper("note", 1) == Denial("note", 1),
        ]
        self.assertEqual(told, [(1, (None, (2, ())), "a"), True, False, True, False])


def holds_list(value):
    """Whether some list stands in the value, through lists and tuples."""
    return isinstance(value, list) or (isinstance(value, tuple) and any(holds_list(item) for item in value))


class Fixed(unittest.TestCase):
    def test_lists_become_tuples(self):
        self.assertEqual(fixed([]), ())
        self.assertEqual(fixed([1, 2]), (1, 2))
        self.assertEqual(fixed([[]]), ((),))
        self.assertEqual(fixed([[1, [2]], [[3]]]), ((1, (2,)), ((3,),)))

    def test_tuples_stay_tuples(self):
        self.assertEqual(fixed(()), ())
        self.assertEqual(fixed((1, (2, ()))), (1, (2, ())))

    def test_lists_within_tuples_within_lists(self):
        self.assertEqual(fixed(([1, (2, [3])], (4, [5, ([],)]))), ((1, (2, (3,))), (4, (5, ((),)))))

    def test_deep_ones(self):
        deep = []
        for level in range(60):
            deep = [deep, level] if level % 2 else (level, deep)
        found = fixed(deep)
        self.assertFalse(holds_list(found))
        for level in reversed(range(60)):
            inner, number = found if level % 2 else found[::-1]
            self.assertEqual(number, level)
            found = inner
        self.assertEqual(found, ())

    def test_other_values_stay(self):
        for value in TRUTHS + INTEGERS + OTHERS:
            with self.subTest(value=value):
                self.assertIs(fixed(value), value)
                self.assertIs(fixed([value])[0], value)
                self.assertIs(fixed((1, [value]))[1][0], value)

    def test_papers_stay(self):
        for paper in (Paper("note", [1]), Denial("note", [1])):
            self.assertIs(fixed(paper), paper)
            self.assertIs(fixed([[paper]])[0][0], paper)

    def test_lists_in_other_values_stay(self):
        table = {"a": [1, [2]]}
        self.assertIs(fixed([table])[0], table)
        self.assertEqual(table, {"a": [1, [2]]})

    def test_nothing_that_is_passed_changes(self):
        value = [1, [2, ([3],)]]
        found = fixed(value)
        self.assertEqual(value, [1, [2, ([3],)]])
        value[1][1][0].append(4)
        value.append(5)
        self.assertEqual(found, (1, (2, ((3,),))))


class Attributes(unittest.TestCase):
    def test_word(self):
        for kind in KINDS:
            for word in ("note", "", "a b"):
                self.assertEqual(kind(word).word, word)
                self.assertEqual(kind(word, 1, 2).word, word)

    def test_no_one_and_many_parts(self):
        for kind in KINDS:
            self.assertEqual(kind("note").parts, ())
            self.assertEqual(kind("note", 1).parts, (1,))
            self.assertEqual(kind("note", 1, "b", None, (2,)).parts, (1, "b", None, (2,)))
            self.assertEqual(kind("note", *range(500)).parts, tuple(range(500)))

    def test_parts_are_fixed(self):
        for kind in KINDS:
            parts = kind("note", [1, [2]], ([],), []).parts
            self.assertEqual(parts, ((1, (2,)), ((),), ()))
            self.assertFalse(holds_list(parts))
            self.assertEqual(kind("note", ()).parts, ((),))

    def test_parts_of_all_kinds(self):
        for kind in KINDS:
            for value in TRUTHS + INTEGERS + OTHERS:
                with self.subTest(kind=kind.__name__, value=value):
                    self.assertIs(kind("note", [value]).parts[0][0], value)

    def test_lists_that_change_after_they_were_passed(self):
        for kind in KINDS:
            inner = [2]
            outer = [1, inner]
            paper = kind("note", outer, inner)
            inner.append(3)
            outer.clear()
            self.assertEqual(paper.parts, ((1, (2,)), (2,)))

    def test_what_is_passed_does_not_change(self):
        for kind in KINDS:
            passed = [[1], ([2],)]
            kind("note", *passed)
            kind("note", passed)
            self.assertEqual(passed, [[1], ([2],)])

    def test_word_by_name(self):
        for kind in KINDS:
            self.assertEqual(kind(word="note").word, "note")
            self.assertEqual(kind(word="note").parts, ())


class Truth(unittest.TestCase):
    def test_papers_are_true_and_denials_false(self):
        for parts in ((), (0,), (False,), (True,), ([],), (1, 2, 3)):
            for word in ("", "note"):
                self.assertIs(bool(Paper(word, *parts)), True)
                self.assertIs(bool(Denial(word, *parts)), False)

    def test_of_classes_below(self):
        self.assertIs(bool(Note("note")), True)
        self.assertIs(bool(Refusal("refusal", 1)), False)


class Equality(unittest.TestCase):
    def assert_equal_both_ways(self, one, other, told):
        self.assertIs(one == other, told)
        self.assertIs(other == one, told)
        self.assertIs(one != other, not told)
        self.assertIs(other != one, not told)

    def test_same_class_word_and_parts(self):
        for kind in (Paper, Denial, Note, Refusal):
            self.assert_equal_both_ways(kind("note"), kind("note"), True)
            self.assert_equal_both_ways(kind("note", 1, "a"), kind("note", 1, "a"), True)
            self.assert_equal_both_ways(kind("note", [1, (2,)]), kind("note", (1, [2])), True)
            self.assert_equal_both_ways(kind("note", Paper("x", [1])), kind("note", Paper("x", (1,))), True)

    def test_a_paper_equals_itself(self):
        for kind in KINDS:
            paper = kind("note", [1])
            self.assert_equal_both_ways(paper, paper, True)

    def test_other_class(self):
        unlike = [Paper("note", 1), Denial("note", 1), Note("note", 1), Refusal("note", 1)]
        for at, one in enumerate(unlike):
            for other in unlike[at + 1:]:
                self.assert_equal_both_ways(one, other, False)

    def test_other_word(self):
        for kind in KINDS:
            self.assert_equal_both_ways(kind("note", 1), kind("notes", 1), False)
            self.assert_equal_both_ways(kind("note"), kind("Note"), False)

    def test_other_parts(self):
        for kind in KINDS:
            parts = [(), (1,), (2,), (1, 1), ((1,),), ("1",), (None,), ([],), ((1, 2),), ((2, 1),), (1, 2)]
            for at, one in enumerate(parts):
                for other in parts[at + 1:]:
                    self.assert_equal_both_ways(kind("note", *one), kind("note", *other), False)
            self.assert_equal_both_ways(kind("note", Paper("x")), kind("note", Denial("x")), False)

    def test_parts_as_python_compares_them(self):
        for kind in KINDS:
            self.assert_equal_both_ways(kind("note", 1, [0]), kind("note", True, (False,)), True)
            self.assert_equal_both_ways(kind("note", 1), kind("note", 1.0), True)

    def test_values_that_are_no_papers(self):
        for kind in KINDS:
            paper = kind("note", 1, 2)
            for value in ANY + ("note", ("note", 1, 2), (1, 2), ["note", (1, 2)]):
                with self.subTest(kind=kind.__name__, value=value):
                    self.assert_equal_both_ways(paper, value, False)

    def test_values_with_the_same_attributes(self):
        class Likeness:
            word = "note"
            parts = (1,)

        for kind in KINDS:
            self.assert_equal_both_ways(kind("note", 1), Likeness(), False)

    def test_comparing_changes_nothing(self):
        one, other = Paper("note", [1]), Denial("note", [2])
        self.assertFalse(one == other)
        self.assertEqual([one.word, one.parts, other.word, other.parts], ["note", ((1,),), "note", ((2,),)])


class Classes(unittest.TestCase):
    def test_denials_stand_directly_below_papers(self):
        self.assertEqual(Paper.__bases__, (object,))
        self.assertEqual(Denial.__bases__, (Paper,))

    def test_methods_stand_in_each_class(self):
        for kind in KINDS:
            for name in ("__init__", "__eq__", "__bool__"):
                self.assertIn(name, vars(kind))

    def test_names_and_files(self):
        self.assertEqual(str(inspect.signature(fixed)), "(value)")
        for kind in KINDS:
            self.assertEqual(str(inspect.signature(kind)), "(word, *parts)")
        for thing in (fixed, Paper, Denial):
            self.assertEqual(thing.__module__, papers.__name__)

    def test_arguments_by_name(self):
        self.assertEqual(fixed(value=[1]), (1,))
