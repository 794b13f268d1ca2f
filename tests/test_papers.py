"""Promise 3: papers and denials, their truth, their equality; what is fixed."""

import unittest

from ropesays.papers import Denial, Paper, fixed


class Note(Paper):
    """A paper with a word of its own, as the other modules of the package make them."""

    def __init__(self, marks):
        Paper.__init__(self, "note", marks)
        self.marks = self.parts[0]


class Refusal(Denial):
    """A denial, likewise."""

    def __init__(self):
        Denial.__init__(self, "refusal")


def nested(depth, innermost):
    """Lists and tuples in one another, by turns."""
    value = innermost
    for level in range(depth):
        value = [value, level] if level % 2 else (level, value)
    return value


def holds_list(value):
    """Whether a list stands in nested tuples."""
    if isinstance(value, list):
        return True
    return isinstance(value, tuple) and any(holds_list(item) for item in value)


class TestFixed(unittest.TestCase):

    def test_example(self):
        self.assertEqual(fixed([[], {"a": [1]}]), ((), {"a": [1]}))

    def test_lists_and_tuples(self):
        self.assertEqual(fixed([]), ())
        self.assertEqual(fixed(()), ())
        self.assertEqual(fixed([1, [2, (3, [4])], ()]), (1, (2, (3, (4,))), ()))
        self.assertEqual(fixed((1, [2])), (1, (2,)))
        self.assertEqual(fixed(value=[1]), (1,))

    def test_all_the_way_in(self):
        for depth in range(31):
            for innermost in ([], [5], (), 7, "x"):
                value = nested(depth, innermost)
                told = fixed(value)
                self.assertFalse(holds_list(told))
                for level in reversed(range(depth)):
                    at = 0 if level % 2 else 1
                    self.assertIsInstance(told, tuple)
                    self.assertEqual((len(told), told[1 - at]), (2, level))
                    told = told[at]
                wanted = tuple(innermost) if isinstance(innermost, list) else innermost
                self.assertEqual(told, wanted)

    def test_other_values_stay(self):
        others = (None, True, False, 0, -5, 10 ** 40, 1.5, "", "[1]", b"ab", {"a": [1]}, {}, {1, 2},
                  object(), len, list, range(3), Paper("note", [1]))
        for value in others:
            self.assertIs(fixed(value), value)
            self.assertIs(fixed([[value]])[0][0], value)

    def test_dicts_are_not_gone_into(self):
        told = fixed([{"a": [1, [2]], "b": ([3],)}])
        self.assertEqual(told, ({"a": [1, [2]], "b": ([3],)},))
        self.assertIsInstance(told[0]["a"], list)
        self.assertIsInstance(told[0]["b"][0], list)

    def test_what_is_passed_stays_as_it_was(self):
        value = [1, [2, [3]], {"a": [4]}]
        fixed(value)
        self.assertEqual(value, [1, [2, [3]], {"a": [4]}])


class TestPaper(unittest.TestCase):

    def test_example(self):
        note = Paper("note", [1, (2, [3])])
        told = [note.parts, bool(note), bool(Denial("no")), note == Denial("note", [1, (2, [3])])]
        self.assertEqual(told, [((1, (2, (3,))),), True, False, False])

    def test_word_and_parts(self):
        for kind in (Paper, Denial):
            paper = kind("note", 1, [2], "three", None)
            self.assertEqual((paper.word, paper.parts), ("note", (1, (2,), "three", None)))
            self.assertIsInstance(paper.parts, tuple)
            self.assertEqual(kind("note", [], ()).parts, ((), ()))

    def test_no_parts(self):
        for kind in (Paper, Denial):
            self.assertEqual((kind("note").word, kind("note").parts), ("note", ()))
            self.assertEqual((kind(word="note").word, kind(word="note").parts), ("note", ()))

    def test_any_values(self):
        thing = object()
        for value in (None, True, 0, 1.5, "", b"x", {}, {1}, thing, len, Paper, Paper("inner", [1])):
            paper = Paper("note", value, [value])
            self.assertEqual(paper.parts, (value, (value,)))
        self.assertIs(Paper("note", thing).parts[0], thing)

    def test_parts_thirty_deep(self):
        paper = Paper("note", nested(30, [1]))
        self.assertEqual(paper.parts, (fixed(nested(30, [1])),))
        self.assertFalse(holds_list(paper.parts))

    def test_truth(self):
        self.assertIs(bool(Paper("note")), True)
        self.assertIs(bool(Paper("no", False, [])), True)
        self.assertIs(bool(Note([])), True)
        self.assertIs(bool(Denial("yes", True, [1])), False)
        self.assertIs(bool(Refusal()), False)

    def test_a_denial_is_a_paper(self):
        self.assertEqual(Denial.__mro__, (Denial, Paper, object))
        self.assertNotIsInstance(Paper("note"), Denial)

    def test_changes_behind_it_leave_a_paper(self):
        for kind in (Paper, Denial):
            inner, table, row = [1], {"a": [1], "b": {"c": [2]}, "d": ([3],)}, [4, 5]
            paper = kind("note", [inner, 2], row, table, [table])
            inner.append(9)
            row[0] = 9
            row.append(9)
            table["a"].append(9)
            table["b"]["c"].append(9)
            table["d"][0].append(9)
            table["e"] = 9
            left = {"a": [1], "b": {"c": [2]}, "d": ([3],)}
            self.assertEqual(paper.parts, (((1,), 2), (4, 5), left, (left,)))

    def test_what_is_passed_stays_as_it_was(self):
        value = [1, [2], {"a": [3, (4, [5])]}]
        Paper("note", value)
        self.assertEqual(value, [1, [2], {"a": [3, (4, [5])]}])


class TestEquality(unittest.TestCase):

    def same(self, one, other, wanted):
        self.assertIs(one == other, wanted)
        self.assertIs(other == one, wanted)
        self.assertIs(one != other, not wanted)

    def test_lists_stand_for_tuples(self):
        for kind in (Paper, Denial):
            self.same(kind("note", [1, (2, [3])]), kind("note", (1, [2, (3,)])), True)
            self.same(kind("note"), kind("note"), True)

    def test_words_and_parts_count(self):
        for kind in (Paper, Denial):
            self.same(kind("note", 1), kind("Note", 1), False)
            self.same(kind("note", 1), kind("note", 2), False)
            self.same(kind("note", 1), kind("note", 1, 1), False)
            self.same(kind("note", 1), kind("note"), False)
            self.same(kind("note", 1, 2), kind("note", [1, 2]), False)
            self.same(kind("note", [1], 2), kind("note", 2, [1]), False)

    def test_parts_are_equal_as_python_compares_them(self):
        self.same(Paper("note", 1, [0]), Paper("note", True, [False]), True)
        self.same(Paper("note", 1.0), Paper("note", 1), True)
        self.same(Paper("note", {"a": [1]}), Paper("note", {"a": [1]}), True)
        self.same(Paper("note", {"a": [1]}), Paper("note", {"a": (1,)}), False)
        self.same(Paper("note", Paper("in", [1])), Paper("note", Paper("in", (1,))), True)
        self.same(Paper("note", Paper("in", [1])), Paper("note", Denial("in", [1])), False)

    def test_only_papers_of_one_class_are_equal(self):
        self.same(Paper("note", [1]), Denial("note", [1]), False)
        self.same(Note([1]), Paper("note", [1]), False)
        self.same(Refusal(), Denial("refusal"), False)
        self.same(Note([1]), Note((1,)), True)
        self.same(Refusal(), Refusal(), True)

    def test_other_values(self):
        for paper in (Paper("note", 1), Denial("note", 1)):
            for value in (None, True, False, "note", ("note", 1), ["note", 1], (1,), {}, object(), len, Paper):
                self.same(paper, value, False)


if __name__ == "__main__":
    unittest.main()
