"""Tests of the six calls together: each answers as if for the first time, whatever was called before."""

import copy
import itertools
import pathlib
import subprocess
import sys
import unittest

from straightfigures import pieces
from tests import conduct, samples

TOP = pathlib.Path(__file__).resolve().parent.parent

ANGLE = [0, 0, 3, 0, 3, 1, 1, 1, 1, 3, 0, 3]
LOWER = samples.piece_row("0 0, 2 0, 0 2")
UPPER = samples.piece_row("0 2, 2 0, 2 2")
MIDDLE = samples.piece_row("1/2 1/2, 3/2 1/2, 3/2 3/2, 1/2 3/2")

# Of each call what is handed in, then the answer, worked out by hand.
CALLS = [
    ("size", [ANGLE], [5, 1]),
    ("triangles", [ANGLE], [4, 0, 0, 3, 0, 3, 1, 0, 0, 3, 1, 1, 1, 0, 3, 0, 0, 1, 1, 1, 1, 1, 3, 0, 3]),
    ("where1", [ANGLE, [1, 1, 1, 1]], [1]),
    ("meet", [LOWER, MIDDLE], samples.answer_of("1/2 1/2, 3/2 1/2, 1/2 3/2")),
    ("joined", [LOWER, UPPER], samples.answer_of("0 0, 2 0, 2 2, 0 2")),
    ("inside", [ANGLE, MIDDLE], [0, 3, 4]),
]

REFUSED = [
    ("size", [ANGLE[1:]], [-22]),
    ("triangles", [ANGLE + ANGLE], [-22]),
    ("where1", [ANGLE, [2, 2, 1, 1]], [-22]),
    ("meet", [LOWER, LOWER[:8]], [-22]),
    ("joined", [LOWER, MIDDLE], [-33]),
    ("joined", [LOWER, MIDDLE[4:] + MIDDLE], [-22]),
    ("inside", [ANGLE, ANGLE], [-22]),
]


def call(name, lists):
    return getattr(pieces, name)(*lists)


class InAnyOrder(unittest.TestCase):
    def test_each_order(self):
        for order in itertools.permutations(CALLS):
            for name, lists, answer in order:
                self.assertEqual(call(name, lists), answer, [told for told, handed, due in order])

    def test_every_two_also_refusals(self):
        for first, second in itertools.product(CALLS + REFUSED, repeat=2):
            for name, lists, answer in (first, second, first):
                self.assertEqual(call(name, lists), answer, (first[0], second[0]))

    def test_the_lists_are_as_they_were(self):
        before = copy.deepcopy(CALLS + REFUSED)
        for name, lists, answer in CALLS + REFUSED:
            call(name, [conduct.Untouchable(row) for row in lists])
            call(name, lists)
        self.assertEqual(CALLS + REFUSED, before)

    def test_one_list_handed_in_twice(self):
        self.assertEqual(call("meet", [LOWER, LOWER]), samples.answer_of("0 0, 2 0, 0 2"))
        self.assertEqual(call("joined", [LOWER, LOWER]), [-33])
        self.assertEqual(call("inside", [ANGLE, ANGLE]), [-22])

    def test_an_answer_that_is_changed_changes_no_other(self):
        for name, lists, answer in CALLS + REFUSED:
            given = call(name, lists)
            given.reverse()
            given.append(7)
            self.assertEqual(call(name, lists), answer)

    def test_nothing_is_kept_in_the_modules(self):
        def kept():
            return {
                (module, name): repr(value)
                for module in ("straightfigures", "straightfigures.pieces", "straightfigures.figures")
                for name, value in vars(sys.modules[module]).items() if name != "__builtins__"
            }

        before = kept()
        for name, lists, answer in CALLS + REFUSED:
            call(name, lists)
        self.assertEqual(kept(), before)

    def test_for_the_first_time(self):
        """Each call by itself, in a Python of its own, which has seen no other; it prints nothing of its own."""
        for name, lists, answer in CALLS + REFUSED:
            asked = f"from straightfigures.pieces import {name}\nassert {name}(*{lists!r}) == {answer!r}"
            done = subprocess.run([sys.executable, "-c", asked], cwd=TOP, capture_output=True, text=True)
            self.assertEqual((done.returncode, done.stdout, done.stderr), (0, "", ""), name)


class ByName(unittest.TestCase):
    def test_the_arguments_have_the_names_of_the_interface(self):
        self.assertEqual(pieces.size(f=ANGLE), [5, 1])
        self.assertEqual(pieces.triangles(f=ANGLE)[0], 4)
        self.assertEqual(pieces.where1(f=ANGLE, z=[1, 2, 1, 2]), [2])
        self.assertEqual(pieces.meet(p=LOWER, q=UPPER), [0])
        self.assertEqual(pieces.joined(p=LOWER, q=UPPER)[0], 4)
        self.assertEqual(pieces.inside(f=ANGLE, p=LOWER), [1, 2, 1])


if __name__ == "__main__":
    unittest.main()
