"""What the document promises over all seven calls: nothing is changed, kept, printed, read or imported."""

import ast
import builtins
import contextlib
import inspect
import io
import json
import subprocess
import sys
import unittest
from unittest import mock

from fewestfolds import packets

import model

LARGEST = 9223372036854775807

# Of a strip of four, away from home: 0 over 1 and 3 over 2.
GATE = [7, -9, 1, 0, 1, 7, -9, 0, 0, 0, 8, -9, 0, 0, 0, 8, -9, 1, 0, 1]
JOINED_BADLY = GATE[:15] + [9, 9, 0, 0, 0]
LAYERED_BADLY = GATE[:-1] + [LARGEST]
CROSSED = [n for c, layer in enumerate((0, 2, 1, 3)) for n in (0, 0, c % 2, 0, layer)]
TURNED = [n for c in range(4) for n in (-c, 0, 1, 0, 0)]
LONG_PILE = [n for c in range(6) for n in (0, 0, c % 2, 0, c)]

# Each call with what it is handed, and what it answers: first where it is not refused, then by each refusal.
CALLS = [
    ("moves", (4, 1, GATE), [0, 4]),
    ("moves", (1, 1, [100, -100, 1, 1, 0]), [0, 0]),
    ("moves", (0, 1, []), [-1]),
    ("moves", (7, 1, model.flat(7, 1)), [-1]),
    ("moves", (4, 1, GATE[:-1]), [-1]),
    ("moves", (6, 1, [LARGEST] * 40), [-1]),
    ("moves", (4, 1, JOINED_BADLY), [-5, 1, 2]),
    ("moves", (4, 1, LAYERED_BADLY), [-5, 2, 2]),
    ("moves", (4, 1, CROSSED), [-5, 3, 0]),
    ("move", (2, 1, 3, [5, 5, 0, 0, 0, 6, 5, 0, 0, 0]), [0, 15, 1, 1, 1, 1, 1, 0, 0, 0, 0, 0, 0, 0, 1, 0, 1]),
    ("move", (4, 1, 4, GATE), [-2]),
    ("move", (4, 1, 4294967295, GATE), [-2]),
    ("move", (2, 4, 0, model.flat(2, 4)), [-1]),
    ("move", (4, 1, 0, GATE + [0]), [-1]),
    ("move", (4, 1, 0, CROSSED), [-5, 3, 0]),
    ("way", (4, 1, 2, GATE), [0, 10, 1, 1, 0, 1, 0, 1, 2, 1, 1, 3]),
    ("way", (4, 1, 4, GATE), [0, 10, 1, 1, 0, 1, 0, 1, 2, 1, 1, 3]),
    ("way", (2, 3, 4, model.flat(2, 3, -100, 9)), [0, 0]),
    ("way", (4, 1, 1, GATE), [-2]),
    ("way", (4, 1, 4, TURNED), [-2]),
    ("way", (6, 1, 3, LONG_PILE), [-6]),
    ("way", (4, 1, 5, GATE), [-1]),
    ("way", (4, 1, 4, GATE[1:]), [-1]),
    ("way", (4, 1, 4, LAYERED_BADLY), [-5, 2, 2]),
    ("show", (4, 1, 4, [0, 0, 0, 1, 0, 3]), [0, 10, 1, 1, 0, 0, 0, 1, 1, 0, 1, 0]),
    ("show", (2, 1, 1, [0, 0, 1]), [0, 5, 1, 1, 0, 0, 0]),
    ("show", (4, 1, 1, [0, 0, 0, 1, 0, 3]), [-2]),
    ("show", (2, 1, 4, [1, 0, 0, 2, 0, 1]), [-2]),
    ("show", (6, 1, 4, [0, 0, 3]), [-6]),
    ("show", (2, 1, 4, [0, 0, 2]), [-1]),
    ("show", (2, 1, 4, [0, 0]), [-1]),
    ("show", (2, 1, 5, [0, 0, 1]), [-1]),
    ("show", (0, 0, 0, []), [-1]),
    ("count", (2, 3, 3), [0, 160]),
    ("count", (4, 1, 4), [0, 0]),
    ("count", (2, 3, 4), [-6]),
    ("count", (3, 3, 0), [-1]),
    ("count", (1, 1, 5), [-1]),
    ("kth", (2, 1, 1, 3), [0, 10, 0, 0, 0, 0, 0, 0, 0, 1, 0, 1]),
    ("kth", (1, 1, 0, 0), [0, 5, 0, 0, 0, 0, 0]),
    ("kth", (2, 1, 1, 4), [-2]),
    ("kth", (6, 1, 3, 4294967295), [-6]),
    ("kth", (6, 0, 3, 0), [-1]),
    ("kth", (2, 1, 4294967295, 0), [-1]),
    ("piles", (4, 1, 2), [0, 8]),
    ("piles", (1, 1, 0), [0, 1]),
    ("piles", (1, 6, 3), [-6]),
    ("piles", (1, 7, 3), [-1]),
    ("piles", (1, 6, 5), [-1]),
]


def handed_copy(given):
    return [list(value) if isinstance(value, list) else value for value in given]


def answer(name, given):
    return getattr(packets, name)(*handed_copy(given))


def changing(name):
    def refuse(self, *given):
        raise AssertionError(f"{name} on a list that was handed in")
    return refuse


class Handed(list):
    """A list that can't be changed, not for a while either."""


for changes in """append clear extend insert pop remove reverse sort __setitem__ __delitem__ __iadd__
        __imul__""".split():
    setattr(Handed, changes, changing(changes))


class WhatIsAnswered(unittest.TestCase):
    def test_every_call_and_every_refusal(self):
        for name, given, told in CALLS:
            self.assertEqual(answer(name, given), told, (name, given))

    def test_all_seven_calls_are_among_them(self):
        names = {"moves", "move", "way", "show", "count", "kth", "piles"}
        self.assertEqual({name for name, given, told in CALLS}, names)

    def test_lists_of_whole_numbers(self):
        for name, given, told in CALLS:
            found = answer(name, given)
            self.assertIs(type(found), list, (name, given))
            self.assertEqual({type(number) for number in found}, {int}, (name, given))


class WhatIsHandedIn(unittest.TestCase):
    def test_is_the_same_behind_the_call(self):
        for name, given, told in CALLS:
            handed = handed_copy(given)
            getattr(packets, name)(*handed)
            self.assertEqual(handed, list(given), (name, given))

    def test_is_not_changed_for_a_while_either(self):
        for name, given, told in CALLS:
            handed = [Handed(value) if isinstance(value, list) else value for value in given]
            self.assertEqual(getattr(packets, name)(*handed), told, (name, given))

    def test_is_not_given_back(self):
        for name, given, told in CALLS:
            handed = handed_copy(given)
            found = getattr(packets, name)(*handed)
            self.assertFalse(any(found is value for value in handed), (name, given))


class NothingIsKept(unittest.TestCase):
    def test_a_call_that_is_repeated(self):
        for name, given, told in CALLS:
            self.assertEqual([answer(name, given) for again in range(3)], [told] * 3, (name, given))

    def test_other_calls_between(self):
        for step in (1, 3, 7, 11):
            order = [at for start in range(step) for at in range(start, len(CALLS), step)]
            for at in order + order[::-1]:
                name, given, told = CALLS[at]
                self.assertEqual(answer(name, given), told, (step, name, given))

    def test_an_answer_that_is_changed_changes_no_later_one(self):
        for name, given, told in CALLS:
            found = answer(name, given)
            found.append(7)
            found[0] = 8
            self.assertEqual(answer(name, given), told, (name, given))

    def test_the_module_is_as_before(self):
        before = {name: repr(value) for name, value in vars(packets).items() if name != "__builtins__"}
        for name, given, told in CALLS:
            answer(name, given)
        after = {name: repr(value) for name, value in vars(packets).items() if name != "__builtins__"}
        self.assertEqual(before, after)


class NothingElseIsDone(unittest.TestCase):
    def test_nothing_is_printed(self):
        out, err = io.StringIO(), io.StringIO()
        with contextlib.redirect_stdout(out), contextlib.redirect_stderr(err):
            for name, given, told in CALLS:
                answer(name, given)
        self.assertEqual((out.getvalue(), err.getvalue()), ("", ""))

    def test_nothing_is_read_or_imported_by_a_call(self):
        with contextlib.ExitStack() as stack:
            used = [stack.enter_context(mock.patch.object(builtins, name, side_effect=AssertionError(name)))
                    for name in ("open", "input", "print", "__import__")]
            found = [answer(name, given) for name, given, told in CALLS]
        self.assertEqual(found, [told for name, given, told in CALLS])
        self.assertEqual([called.call_count for called in used], [0, 0, 0, 0])

    def test_a_fresh_python_imports_the_program_alone_and_prints_nothing_else(self):
        code = "\n".join([
            "import json, sys",
            "calls = json.loads(sys.argv[1])",
            "before = set(sys.modules)",
            "import fewestfolds.packets as packets",
            "found = [getattr(packets, name)(*given) for name, given in calls]",
            "print(json.dumps([sorted(set(sys.modules) - before), found]))",
        ])
        calls = json.dumps([(name, given) for name, given, told in CALLS])
        ended = subprocess.run([sys.executable, "-c", code, calls], stdin=subprocess.DEVNULL, capture_output=True,
                               text=True, env={"PYTHONPATH": ":".join(filter(None, sys.path))}, check=True)
        self.assertEqual(ended.stderr, "")
        self.assertEqual(json.loads(ended.stdout),
                         [["fewestfolds", "fewestfolds.packets"], [told for name, given, told in CALLS]])

    def test_the_module_imports_nothing(self):
        for node in ast.walk(ast.parse(inspect.getsource(packets))):
            self.assertNotIsInstance(node, (ast.Import, ast.ImportFrom))


class NothingIsNested(unittest.TestCase):
    def uses(self):
        """Of each function of the module, the names of the module's functions that stand in it."""
        tree = ast.parse(inspect.getsource(packets))
        functions = {node.name: node for node in tree.body if isinstance(node, ast.FunctionDef)}
        return {name: {inner.id for inner in ast.walk(node) if isinstance(inner, ast.Name)} & set(functions)
                for name, node in functions.items()}

    def test_no_function_comes_back_to_itself(self):
        left = self.uses()
        while left:
            done = [name for name, used in left.items() if not used & set(left)]
            self.assertNotEqual(done, [], sorted(left))
            for name in done:
                del left[name]


if __name__ == "__main__":
    unittest.main()
