"""What holds of every call alike: its arguments, its kinds, and what it leaves as it was."""

import contextlib
import inspect
import io
import pathlib
import subprocess
import sys
import unittest
from unittest import mock

from complexrows import rows
from tests.helper import NOT_FINITE, NOT_FINITE_FLOATS, row

ARGUMENTS = {
    "product": ["a", "b"],
    "quotient": ["a", "b"],
    "turn": ["k", "a"],
    "dot": ["a", "b"],
    "value": ["x", "c"],
    "transform": ["k", "a", "w"],
    "roots": ["c", "z"],
    "solve": ["a", "b"],
    "sort": ["a"],
    "narrow": ["a"],
    "widen": ["a"],
}

# Of each call: what it is handed, and the number that it answers first.
SAMPLES = {
    "product": [
        ((row(1, 2, 3, 4), row(5, 6, -7, 8)), 0),
        (([], []), 0),
        ((row(1, 2, 1e200, 0, 3, 4), row(5, 6, 1e200, 0, 7, 8)), -3),
    ],
    "quotient": [
        ((row(1, 2, 3, 4), row(5, 6, -7, 8)), 0),
        (([], []), 0),
        ((row(1, 2, 1, 1, 3, 4), row(5, 6, 0, 0, 7, 8)), -3),
    ],
    "turn": [
        ((0, row(1, 2, 3, -4)), 0),
        ((1, row(1, 2, 3, -4)), 0),
        ((2, row(1, 2, 3, -4)), 0),
        ((-1, row(1, 2, 3, -4)), 0),
        ((7, []), 0),
    ],
    "dot": [
        ((row(1, 2, 3, 4), row(5, 6, -7, 8)), 0),
        (([], []), 0),
        ((row(1, 2, 1e200, 0, 3, 4), row(5, 6, 1e200, 0, 7, 8)), -3),
    ],
    "value": [
        ((row(1, 2), row(5, 6)), 0),
        ((row(1, 2), row(5, 6, -7, 8, 9, 10)), 0),
        ((row(1e200, 2), row(5, 6, -7, 8, 9, 10)), -3),
    ],
    "transform": [
        ((0, row(1, 2), []), 0),
        ((1, row(1, 2, 3, 4), row(1, 0)), 0),
        ((2, row(1, 2, 3, 4, 5, 6, 7, 8), row(1, 0, 0, -1)), 0),
        ((3, row(1, 2) * 8, row(3, 0, 0.5, -1) * 2), 0),
        ((2, row(1e300, 2, 3, 4, 5, 6, 7, 8), row(1e300, 0, 1e300, -1)), -3),
        ((-1, [], []), -2),
        ((11, [], []), -2),
    ],
    "roots": [
        ((row(-6, 1, 2, 0), row(1, 0)), 0),
        ((row(2, 0, -3, 0, 1, 0), row(0, 1, 3, 0)), 0),
        ((row(2, 0, -3, 0, 1, 0), row(3, 0, 3, 0)), -3),
        ((row(2, 0, -3, 0, 0, 0), row(0, 1, 3, 0)), -3),
        (([], []), -2),
    ],
    "solve": [
        ((row(2, 1), row(3, 4)), 0),
        ((row(1, 0, 2, 0, 3, 0, 4, 1), row(5, 0, 6, 0)), 0),
        ((row(1, 0, 2, 0, 2, 0, 4, 0), row(5, 0, 6, 0)), -1),
        ((row(1e200, 0, 2, 0, 2, 0, 4, 0), row(5, 0, 6, 0)), -3),
        (([], []), -2),
    ],
    "sort": [
        ((row(3, 4, 1, 2, 3, -4, -0.0, 0),), 0),
        (([],), 0),
    ],
    "narrow": [
        ((row(3, 4, 0.1, -2, -0.0, 0),), 0),
        (([],), 0),
        ((row(3, 4, 1e300, -2, 0.5, 0),), -3),
    ],
    "widen": [
        (([0x3F800000, 0xC0000000, 0x00000001, 0x80000000],), 0),
        (([],), 0),
    ],
}


# What reads, prints or imports; the name of an event begins with one of these.
NOT_ALLOWED_EVENTS = ("open", "import", "exec", "compile", "os.", "socket.", "subprocess.", "builtins.input")


class Watch:
    """Keeps the events of the interpreter while it is on. A hook can't be taken off again."""

    def __init__(self):
        self.on = False
        self.seen = []
        sys.addaudithook(self.hook)

    def hook(self, event, arguments):
        if self.on and event.startswith(NOT_ALLOWED_EVENTS):
            self.seen.append(event)


class Unchangeable(list):
    """A list that can't be changed, not for a while either."""

    def refuse(self, *arguments, **named):
        raise AssertionError("a list that was handed in is changed")

    append = clear = extend = insert = pop = remove = reverse = sort = refuse
    __setitem__ = __delitem__ = __iadd__ = __imul__ = refuse


def samples():
    for name in SAMPLES:
        for arguments, first in SAMPLES[name]:
            yield name, getattr(rows, name), arguments, first


def kept_values():
    """What the package's modules hold, as text."""
    held = {}
    for name, module in sys.modules.items():
        if name.split(".")[0] == "complexrows":
            held[name] = sorted(
                (key, repr(kept)) for key, kept in vars(module).items() if not key.startswith("__")
            )
    return held


def copied(arguments):
    return [list(argument) if isinstance(argument, list) else argument for argument in arguments]


class EveryCallTest(unittest.TestCase):
    def test_every_call_has_samples(self):
        self.assertEqual(list(SAMPLES), list(ARGUMENTS))

    def test_arguments(self):
        for name in ARGUMENTS:
            parameters = inspect.signature(getattr(rows, name)).parameters.values()
            self.assertEqual([parameter.name for parameter in parameters], ARGUMENTS[name], name)
            for parameter in parameters:
                self.assertIs(parameter.default, parameter.empty, name)

    def test_first_number(self):
        for name, call, arguments, first in samples():
            answer = call(*arguments)
            self.assertEqual(answer[0], first, (name, arguments))
            if first != 0:
                self.assertEqual(answer, [first], (name, arguments))

    def test_arguments_by_name(self):
        for name, call, arguments, first in samples():
            self.assertEqual(call(**dict(zip(ARGUMENTS[name], arguments))), call(*arguments), (name, arguments))

    def test_answer_is_a_list_of_whole_numbers(self):
        for name, call, arguments, first in samples():
            answer = call(*arguments)
            self.assertIs(type(answer), list, name)
            for number in answer:
                self.assertIs(type(number), int, name)

    def test_lists_handed_in_are_as_they_were(self):
        for name, call, arguments, first in samples():
            handed_in = copied(arguments)
            call(*handed_in)
            self.assertEqual(handed_in, copied(arguments), name)

    def test_lists_handed_in_are_not_changed_for_a_while_either(self):
        for name, call, arguments, first in samples():
            guarded = [Unchangeable(x) if isinstance(x, list) else x for x in arguments]
            self.assertEqual(call(*guarded), call(*arguments), name)

    def test_answer_is_a_list_of_its_own(self):
        for name, call, arguments, first in samples():
            handed_in = copied(arguments)
            answer = call(*handed_in)
            answer.append(99)
            answer[0] = 98
            self.assertEqual(handed_in, copied(arguments), name)

    def test_second_call_answers_as_the_first(self):
        firsts = [list(call(*arguments)) for name, call, arguments, first in samples()]
        for (name, call, arguments, first), kept in zip(samples(), firsts):
            answer = call(*arguments)
            self.assertEqual(answer, kept, name)
            answer.append(99)
            self.assertEqual(call(*arguments), kept, name)

    def test_not_finite_part_at_any_place_comes_first(self):
        for name, call, arguments, first in samples():
            for which, argument in enumerate(arguments):
                if not isinstance(argument, list):
                    continue
                for place in range(len(argument)):
                    for part in NOT_FINITE_FLOATS if name == "widen" else NOT_FINITE:
                        handed_in = copied(arguments)
                        handed_in[which][place] = part
                        self.assertEqual(call(*handed_in), [-2], (name, handed_in))

    def test_nothing_is_printed(self):
        printed = io.StringIO()
        with contextlib.redirect_stdout(printed), contextlib.redirect_stderr(printed):
            for name, call, arguments, first in samples():
                call(*arguments)
        self.assertEqual(printed.getvalue(), "")

    def test_nothing_is_read_or_imported(self):
        watch = Watch()
        modules = set(sys.modules)
        with mock.patch.object(sys, "stdin", None):
            watch.on = True
            for name, call, arguments, first in samples():
                call(*arguments)
            watch.on = False
        self.assertEqual(watch.seen, [])
        self.assertEqual(set(sys.modules), modules)

    def test_the_program_alone_is_loaded_with_it(self):
        source = (
            "import sys; sys.path.insert(0, sys.argv[1]); before = set(sys.modules); import complexrows.rows;"
            " print(*sorted(set(sys.modules) - before))"
        )
        top = str(pathlib.Path(__file__).resolve().parent.parent)
        command = [sys.executable, "-I", "-S", "-B", "-c", source, top]
        loaded = subprocess.run(command, capture_output=True, text=True, check=True)
        self.assertEqual(loaded.stderr, "")
        self.assertEqual([name for name in loaded.stdout.split() if name.split(".")[0] != "complexrows"], [])
        self.assertIn("complexrows.rows", loaded.stdout.split())

    def test_nothing_is_kept(self):
        before = kept_values()
        for name, call, arguments, first in samples():
            call(*arguments)
            self.assertEqual(kept_values(), before, name)
