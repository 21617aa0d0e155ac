"""Point 1, over the whole program: what is handed in is not changed or kept, and what is told is the asker's own."""

import ast
import inspect
import subprocess
import sys
import unittest
from copy import deepcopy
from pathlib import Path

from helper import closed_plaits
from loopwright import (
    colours, desk, errors, form, handles, letters, loops, notes, plaits, powers, states, steps,
)

PACKAGE = Path(plaits.__file__).resolve().parent

ONE = (3, (1, 2, 1, -2))
OTHER = (3, (2, 1))
WORD = (1, 2, 1, -2, 2)
PAPER = [("three", 0), ("out", 2), ("out", 1), ("out", 0)]
MOVES = [("round",), ("more", -1), ("flip",), ("step", ("in", 2, 1))]

# Every function of the interface, with values that are handed to it.
CALLS = [
    (plaits.looked, (ONE,)), (plaits.behind, (ONE, OTHER)), (plaits.turned, (ONE,)), (plaits.mirrored, (ONE,)),
    (plaits.flipped, (ONE,)), (plaits.shorter, (ONE,)), (plaits.often, (ONE, -3)), (plaits.order_of, (ONE,)),
    (notes.shown, (ONE,)), (notes.read, ("3: 1 2 1 -2",)), (letters.reduced, ((1, 2, -2),)),
    (letters.joined, ((1, 2), (-2, 3))), (letters.image, (ONE, 1)), (letters.images, (ONE,)),
    (letters.alike, (ONE, OTHER)), (letters.unlike, (ONE, (3, ()))),
    (letters.shows_unlike, (ONE, OTHER, (1, (1,), (2,)))), (form.form_of, (ONE,)), (form.form_by, (3, WORD)),
    (form.same_form, (ONE, OTHER)), (form.is_form, (3, (-1, ((2, 0, 1),)))), (form.word_of, (3, (-1, ((2, 0, 1),)))),
    (steps.stepped, (3, WORD, ("three", 0))), (steps.walked, (3, WORD, [("three", 0), ("out", 3)])),
    (steps.choices, (3, WORD)), (handles.sameness, (ONE, OTHER)), (handles.holds, (ONE, OTHER, PAPER)),
    (loops.pieces, (ONE,)), (loops.turns, (ONE,)), (loops.windings, (ONE,)), (loops.moved, (ONE, ("round",))),
    (loops.moved_all, (ONE, MOVES)), (colours.coloured, (((0, 2, 1), (2, 1, 0), (1, 0, 2)), ONE, (0, 1, 2))),
    (colours.colourings, (((0, 2, 1), (2, 1, 0), (1, 0, 2)), ONE)), (colours.free_colours, (3, ONE)),
    (colours.ring_table, (5,)), (states.by_states, (ONE,)), (states.by_nests, (ONE,)), (states.settled, (ONE,)),
    (powers.table_of, (ONE,)), (powers.closed_sum, (ONE,)), (powers.closed_weight, (ONE,)),
]

# The numbers of names with which each file of the interface stands there.
MODULES = {
    plaits: 8, notes: 2, letters: 7, form: 5, steps: 3, handles: 2, loops: 5, colours: 4, states: 3, powers: 3,
}


def spoil(value):
    """Change all lists and dicts within a value."""
    if type(value) in (list, tuple):
        for part in value:
            spoil(part)
    if type(value) is list:
        value.reverse()
        value.append("spoiled")
    if type(value) is dict:
        value.clear()
        value["spoiled"] = True


def lists_in(value):
    """All lists and dicts within a value, each as often as it stands there."""
    found = [value] if type(value) in (list, dict) else []
    if type(value) is dict:
        value = list(value.values())
    if type(value) in (list, tuple):
        for part in value:
            found.extend(lists_in(part))
    return found


class WholeTest(unittest.TestCase):
    def test_every_function_is_tried(self):
        for module, many in MODULES.items():
            self.assertEqual(len([call for call, _ in CALLS if call.__module__ == module.__name__]), many)
        for call, values in CALLS:
            self.assertEqual(len(inspect.signature(call).parameters), len(values))

    def test_what_is_handed_in_is_not_changed(self):
        for call, values in CALLS:
            given = deepcopy(values)
            call(*given)
            self.assertEqual(given, values, call)

    def test_what_is_told_is_the_askers_own(self):
        for call, values in CALLS:
            given = deepcopy(values)
            first = call(*given)
            wanted = deepcopy(first)
            self.assertEqual(len({id(part) for part in lists_in(first)}), len(lists_in(first)), call)
            self.assertFalse({id(part) for part in lists_in(first)} & {id(part) for part in lists_in(given)}, call)
            spoil(first)
            spoil(given)
            again = call(*deepcopy(values))
            self.assertEqual(again, wanted, call)
            self.assertIs(type(again), type(wanted), call)
            spoil(again)
            self.assertEqual(call(*deepcopy(values)), wanted, call)

    def test_nothing_hangs_on_what_was_asked_before(self):
        first = [call(*deepcopy(values)) for call, values in CALLS]
        for plait in closed_plaits()[::5]:
            for call, values in CALLS:
                if len(values) == 1 and values[0] == ONE:
                    try:
                        call(plait)
                    except errors.NoRoom:
                        pass
        for (call, values), wanted in reversed(list(zip(CALLS, first))):
            self.assertEqual(call(*deepcopy(values)), wanted, call)

    def test_plain_kinds_alone_are_told(self):
        def check(value):
            self.assertIn(type(value), (int, str, bool, type(None), tuple, list))
            if type(value) in (list, tuple):
                for part in value:
                    check(part)
        for call, values in CALLS:
            check(call(*deepcopy(values)))

    def test_desks(self):
        first = desk.Desk()
        first.say("keep a 3: 1 2 1 -2")
        first.say("keep b 3: 2 1")
        for line in ("show a", "names", "same a b", "order a", "form a", "closed a"):
            wanted = first.say(line)
            spoil(first.plaits())
            other = desk.Desk()
            other.say("keep a 2: 1")
            self.assertEqual(first.say(line), wanted)
        self.assertEqual(first.plaits(), {"a": ONE, "b": OTHER})
        self.assertIsNot(first.plaits(), first.plaits())

    def test_the_same_is_told_in_each_run(self):
        code = "import test_whole as w\nprint([call(*values) for call, values in w.CALLS])"
        told = set()
        for seed in ("0", "1", "77"):
            run = subprocess.run(
                [sys.executable, "-c", code], cwd=Path(__file__).parent, capture_output=True, text=True, check=True,
                env={"PYTHONHASHSEED": seed, "PYTHONPATH": str(PACKAGE.parent), "PYTHONDONTWRITEBYTECODE": "1"})
            told.add(run.stdout)
        self.assertEqual(told, {str([call(*values) for call, values in CALLS]) + "\n"})

    def test_no_clock_chance_or_files(self):
        for path in sorted(PACKAGE.glob("*.py")):
            for node in ast.walk(ast.parse(path.read_text(encoding="ascii"))):
                self.assertNotIsInstance(node, ast.Import, path)
                if isinstance(node, ast.ImportFrom):
                    self.assertEqual(node.module.split(".")[0], "loopwright", path)


if __name__ == "__main__":
    unittest.main()
