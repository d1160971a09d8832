"""What the document promises over the whole program, all its calls together."""

import ast
import builtins
import contextlib
import copy
import inspect
import io
import unittest
from itertools import product
from pathlib import Path
from unittest import mock

from knotcharts import symmetries
from knotcharts.symmetries import cell, count, has, kind, least, nth, strip
from tests.helper import (COLOURS, DOC_CHARTS, PINWHEEL, PUSHED_ON, REFUSED_TEXTS, WITHOUT_STEPS, Watched, repeated,
                          small_charts, text, told, turn)

INTERFACE = {"has": ["m", "a", "b", "t"], "count": ["t"], "nth": ["k", "t"], "least": ["t"], "cell": ["t"],
             "kind": ["t"], "strip": ["t"]}

PACKAGE = Path(symmetries.__file__).parent

CHARTS = DOC_CHARTS + WITHOUT_STEPS + [PINWHEEL, PUSHED_ON, "a/", "abab/baba/", "aaa/aaa/"]


def all_calls(t):
    """Give calls of the whole interface with this text: what is called, and the call."""
    return [("has", lambda: has(7, -1, 1, t)), ("has, no motion", lambda: has(8, 0, 0, t)), ("count", lambda: count(t)),
            ("nth", lambda: nth(1, t)), ("nth, none", lambda: nth(4294967295, t)), ("least", lambda: least(t)),
            ("cell", lambda: cell(t)), ("kind", lambda: kind(t)), ("strip", lambda: strip(t))]


def all_texts():
    return [text(written) for written in CHARTS] + [t for refusal, what, t in REFUSED_TEXTS]


class InterfaceTest(unittest.TestCase):
    def test_names_and_arguments(self):
        for name, arguments in INTERFACE.items():
            function = getattr(symmetries, name)
            self.assertTrue(inspect.isfunction(function), name)
            self.assertEqual(function.__module__, "knotcharts.symmetries", name)
            parameters = inspect.signature(function).parameters.values()
            self.assertEqual([each.name for each in parameters], arguments, name)
            for each in parameters:
                self.assertIs(each.default, inspect.Parameter.empty, name)
                self.assertIs(each.kind, inspect.Parameter.POSITIONAL_OR_KEYWORD, name)

    def test_by_place(self):
        t = text("aab/")
        self.assertEqual([has(4, 1, 0, t), has(4, 0, 1, t), nth(2, t)], [[1], [0], [0, 4, 1, 0]])

    def test_answers_are_lists_of_whole_numbers(self):
        for t in all_texts():
            for what, call in all_calls(t):
                answer = call()
                self.assertIs(type(answer), list, what)
                self.assertGreater(len(answer), 0, what)
                self.assertEqual({type(number) for number in answer}, {int}, what)

    def test_a_refusal_is_alone_and_none_else_is_below_0(self):
        for t in all_texts():
            for what, call in all_calls(t):
                answer = call()
                if answer[0] < 0:
                    self.assertEqual(len(answer), 1, what)
                else:
                    self.assertGreaterEqual(min(answer), 0, what)


class RefusalTest(unittest.TestCase):
    def test_order(self):
        too_long = [[97] * 66049, [97, 10] * 33025, [10] * 66100, ([97] * 512 + [10]) * 128 + [97] * 384 + [10]]
        no_chart = [[], [97], [10], text("ab/a/"), text("a b/"), [97] * 513 + [10]]
        for refusal, texts in [(-2, too_long), (-6, no_chart)]:
            for t in texts:
                for what, call in all_calls(t):
                    self.assertEqual(call(), [refusal], what)

    def test_what_only_one_call_refuses(self):
        for written in CHARTS:
            refused = {what: call() for what, call in all_calls(text(written)) if call()[0] < 0}
            self.assertEqual(refused.pop("has, no motion"), [-1], written)
            self.assertEqual(refused.pop("nth, none"), [-4], written)
            self.assertIn(refused, ({}, {"nth": [-4]}), written)

    def test_each_byte_beside_a_colour(self):
        for byte in range(256):
            refused = byte not in COLOURS and byte != 10
            for what, call in all_calls([97, byte, 10, byte, 97, 10]):
                if refused or byte == 10:
                    self.assertEqual(call(), [-6], (what, byte))
                elif what in ("count", "least", "cell", "kind", "strip"):
                    self.assertGreater(call()[-1], 0, (what, byte))


class ByItselfTest(unittest.TestCase):
    def test_the_same_answer_when_asked_again(self):
        first = [[call() for what, call in all_calls(t)] for t in all_texts()]
        self.assertEqual([[call() for what, call in all_calls(t)] for t in all_texts()], first)
        again = [[call() for what, call in reversed(all_calls(t))][::-1] for t in reversed(all_texts())][::-1]
        self.assertEqual(again, first)

    def test_behind_each_other_call(self):
        t = text("aab/")
        calls = all_calls(t)
        answers = [call() for what, call in calls]
        for other in ([], text("ab/ba/"), [97] * 66049, text("abcd/efgh/"), t):
            for (between, other_call), (place, (what, call)) in product(all_calls(other), enumerate(calls)):
                other_call()
                self.assertEqual(call(), answers[place], (between, what))

    def test_the_same_list_filled_anew(self):
        t = text("aab/")
        calls = all_calls(t)
        old = [call() for what, call in calls]
        t[:] = text("ab/ba/")
        self.assertEqual([call() for what, call in calls], [call() for what, call in all_calls(text("ab/ba/"))])
        t[:] = text("aab/")
        self.assertEqual([call() for what, call in calls], old)

    def test_an_answer_may_be_changed(self):
        t = text("aab/")
        for what, call in all_calls(t):
            answer = call()
            kept = list(answer)
            answer.append(5)
            answer[0] = 77
            self.assertEqual(call(), kept, what)
        self.assertEqual(t, text("aab/"))

    def test_the_module_stays_as_it_was(self):
        before = {name: copy.deepcopy(value) for name, value in vars(symmetries).items() if not name.startswith("__")}
        for t in all_texts():
            for what, call in all_calls(t):
                call()
        after = {name: value for name, value in vars(symmetries).items() if not name.startswith("__")}
        self.assertEqual(after, before)
        for name in INTERFACE:
            self.assertEqual(vars(getattr(symmetries, name)), {}, name)


class HandedInTest(unittest.TestCase):
    def test_text_stays_as_it_was(self):
        for t in all_texts():
            watched = Watched(t)
            for what, call in all_calls(watched):
                call()
                self.assertEqual(list(watched), t, what)

    def test_a_plain_list_stays_as_it_was(self):
        for t in all_texts():
            kept = list(t)
            for what, call in all_calls(t):
                call()
                self.assertEqual(t, kept, what)

    def test_the_list_is_not_given_back(self):
        for written in CHARTS:
            t = text(written)
            for what, call in all_calls(t):
                self.assertIsNot(call(), t, what)


class NothingElseTest(unittest.TestCase):
    def test_nothing_is_printed_read_or_imported_by_a_call(self):
        said = io.StringIO()
        calls = [each for t in all_texts() for each in all_calls(t)]
        with contextlib.redirect_stdout(said), contextlib.redirect_stderr(said), \
                mock.patch.object(builtins, "open") as opened, mock.patch.object(builtins, "input") as asked, \
                mock.patch.object(builtins, "__import__") as imported:
            for what, call in calls:
                call()
        self.assertEqual(said.getvalue(), "")
        self.assertEqual([opened.called, asked.called, imported.called], [False] * 3)

    def test_no_imports_and_no_input_or_output_in_the_package(self):
        files = sorted(PACKAGE.rglob("*.py"))
        self.assertEqual([file.name for file in files], ["__init__.py", "symmetries.py"])
        for file in files:
            for node in ast.walk(ast.parse(file.read_text())):
                self.assertNotIsInstance(node, (ast.Import, ast.ImportFrom, ast.Global, ast.Nonlocal), file.name)
                if isinstance(node, ast.Name):
                    self.assertNotIn(node.id, ("print", "open", "input", "eval", "exec", "__import__"), file.name)


class GroupTest(unittest.TestCase):
    """Symmetries done one after another are symmetries, and each is undone by one."""

    def test_one_after_another(self):
        for written in DOC_CHARTS + [PUSHED_ON, "abab/baba/", "aaab/abaa/", "baab/aabb/bbaa/abba/"]:
            t = text(written)
            for (m, a, b), (n, c, d) in product(told(written), repeat=2):
                x, y = turn(n, a, b)
                both = [each for each in range(8)
                        if all(turn(each, *place) == turn(n, *turn(m, *place)) for place in [(1, 0), (0, 1)])]
                self.assertEqual(has(both[0], x + c, y + d, t), [1], (written, m, a, b, n, c, d))

    def test_each_is_undone(self):
        for written in DOC_CHARTS + [PINWHEEL, PUSHED_ON, "abab/baba/"]:
            t = text(written)
            for m, a, b in told(written):
                back = {1: 3, 3: 1}.get(m, m)
                x, y = turn(back, a, b)
                self.assertEqual(has(back, -x, -y, t), [1], (written, m, a, b))

    def test_as_many_as_least_repeats_times_as_many_m(self):
        for written in list(small_charts()) + CHARTS + [repeated(PUSHED_ON, 3, 2)]:
            t = text(written)
            refusal, p, q, r = least(t)
            number, turns, mirrors = kind(t)
            self.assertEqual(count(t), [written.index("/") * written.count("/") // (p * r) * turns], written)


class AgreeTest(unittest.TestCase):
    """What one call answers fits what the others do."""

    def test_calls_agree(self):
        for written in CHARTS + list(small_charts()):
            t = text(written)
            refusal, p, q, r = least(t)
            self.assertEqual(cell(t)[0], (p + 1) * r, written)
            self.assertEqual(strip(t)[1], p, written)
            every = [nth(k, t)[1:] for k in range(count(t)[0])]
            self.assertEqual(len({m for m, a, b in every}), kind(t)[1], written)
            last = written.count("/") - 1
            moves = [(m, a) for m, a, b in every if (m, b) in ((0, 0), (2, last), (4, 0), (6, last))]
            self.assertEqual(len(moves), strip(t)[2], written)

    def test_no_other_kinds(self):
        kinds = {kind(text(written))[0] for written in small_charts()}
        borders = {strip(text(written))[0] for written in small_charts()}
        self.assertLessEqual(kinds, set(range(1, 13)))
        self.assertLessEqual(borders, set(range(1, 8)))


if __name__ == "__main__":
    unittest.main()
