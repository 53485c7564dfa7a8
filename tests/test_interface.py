"""The interface: what goes in, what comes out, and what is left alone."""

import ast
import contextlib
import io
import pathlib
import sys
import unittest

import ringcells
from ringcells.store import answers
from tests.helper import (alike, cell, clear, copy, count, fields, held, kind, line, make, number, random_line, root,
                          rooted, said, told, unset)

SOURCES = sorted(pathlib.Path(ringcells.__file__).parent.glob("*.py"))
CALLS = [make(2), root(7, 1), make(9), number(1, 1, -5), make(1), cell(1, 0, 2), unset(1, 1),
         rooted(7), rooted(300), number(2, 0, -1), kind(1, 0), kind(2, 0), kind(1, 2), told(2, 0), told(9, 0),
         held(1, 0), fields(1), count(), copy(1), alike(1, 3), alike(3, 2), alike(9, 3), held(3, 0), root(7, 0),
         unset(1, 0), copy(1), count(), make(0)]
SAID = [1, 0, -2, 0, 2, 0, 0, 1, -2, 0, 2, 1, -2, -1, -1, 2, 2, 2, 3, 1, 0, -1, 4, 0, -1, -1, 0, 5]


class Untouchable(list):
    """A list that can be read alone."""

    def refuse(self, *given, **named):
        raise AssertionError("what was handed in is changed")

    append = extend = insert = pop = remove = clear = sort = reverse = refuse
    __setitem__ = __delitem__ = __iadd__ = __imul__ = refuse


class Interface(unittest.TestCase):
    def test_how_many_then_the_answer_for_each_call(self):
        self.assertEqual(answers([1]), [1, 0])
        self.assertEqual(answers([1, 2, 3, 3, 5, 1, 4, 5, 2, 9]), [1, 0, 1, 1, 1, 0, 1, 1, 1, -2])

    def test_each_call_takes_its_own_count_of_numbers(self):
        self.assertEqual({call[0] for call in CALLS}, set(range(2, 15)))
        self.assertEqual(said(*CALLS), SAID)

    def test_each_call_by_its_number(self):
        self.assertEqual(answers([1, 2, 2, 3, 0, 1, 5, 1, 0, -7, 6, 1, 1, 1, 8, 1, 0, 9, 1, 0, 10, 1, 1, 11, 1, 12,
                                  13, 1, 1, 14, 1, 7, 1, 0, 4, 0]),
                         [1, 0, 1, 1, 1, 0, 1, 0, 1, 0, 1, 1, 1, -7, 1, 1, 1, 2, 1, 1, 1, 1, 1, 2, 1, 0, 1, 1])

    def test_a_line_of_400_calls(self):
        self.assertEqual(said(*[make(0)] * 399), list(range(1, 400)))
        self.assertEqual(said(make(0), *[copy(h) for h in range(1, 399)]), list(range(1, 400)))

    def test_answers_are_a_list_of_ints(self):
        found = answers(line(CALLS))
        self.assertIs(type(found), list)
        self.assertEqual({type(one) for one in found}, {int})

    def test_what_is_handed_in_is_the_same_afterwards(self):
        handed = line(CALLS)
        before = list(handed)
        answers(handed)
        self.assertEqual(handed, before)

    def test_what_is_handed_in_is_not_changed_for_a_while_either(self):
        self.assertEqual(answers(Untouchable(line(CALLS))), answers(line(CALLS)))

    def test_nothing_is_kept_from_one_time_to_the_next(self):
        first = answers(line(CALLS))
        self.assertEqual(answers([1, 4, 7, 2, 0]), [1, 0, 1, 0, 1, 1])
        kept = list(first)
        first.clear()
        self.assertEqual(answers(line(CALLS)), kept)

    def test_a_second_time_answers_as_the_first(self):
        for seed in range(20):
            handed = line(random_line(seed)[0])
            before = list(handed)
            self.assertEqual(answers(handed), answers(handed))
            self.assertEqual(handed, before)

    def test_a_list_that_clears_again(self):
        self.assertEqual(said(*CALLS, clear(), *CALLS), SAID + [0] + SAID)

    def test_nothing_is_printed_and_nothing_is_imported(self):
        modules = set(sys.modules)
        shown = io.StringIO()
        with contextlib.redirect_stdout(shown), contextlib.redirect_stderr(shown):
            answers(line(CALLS))
        self.assertEqual(shown.getvalue(), "")
        self.assertEqual(set(sys.modules), modules)

    def test_the_sources_import_and_read_nothing(self):
        for path in SOURCES:
            for node in ast.walk(ast.parse(path.read_text())):
                self.assertNotIsInstance(node, (ast.Import, ast.ImportFrom))
                if isinstance(node, ast.Name):
                    self.assertNotIn(node.id, ("open", "input", "print", "eval", "exec"))


class Form(unittest.TestCase):
    def test_plain_signs_and_short_lines(self):
        for path in SOURCES:
            text = path.read_text()
            self.assertTrue(all(sign == "\n" or " " <= sign <= "~" for sign in text))
            self.assertLessEqual(max(len(row) for row in text.split("\n")), 120)
            self.assertLessEqual(text.count("\n"), 400)

    def test_short_functions(self):
        for path in SOURCES:
            for node in ast.walk(ast.parse(path.read_text())):
                if isinstance(node, ast.FunctionDef):
                    self.assertLessEqual(node.end_lineno - node.lineno + 1, 40)
