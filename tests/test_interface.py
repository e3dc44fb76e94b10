"""The interface: how calls are told as one list, how answers are given back, and that nothing is kept."""

import ast
import contextlib
import io
import pathlib
import unittest

from tests.helper import (Case, NO_COST, ask, bass, begins, best, call, faults, key, rules, voices, voicings, ways)
from voicesled.desk import answers

PACKAGE = pathlib.Path(__file__).resolve().parent.parent / "voicesled"
EVERY_CALL = [ways(), bass("c2 3 5", "f2 3 5"), voices((21, 23, 25, 26, 28, 31), 7), ways(), voicings(1), best(),
              rules((1, 2, 3, 4, 5, 6, 7), 2, 3), faults("e3 g3 c4", "c3 a3 f4"), best(), key(1, 1, 2, 1, 1, 1, 1),
              voicings(0), bass("c2 3 5"), voicings(0), key(3), begins(), voicings(0), faults(), best(),
              bass("c2 3 5"), faults("d3 g3 e4"), voicings(0), ways(), begins(), ways()]


def joined(calls):
    return [number for numbers in calls for number in numbers]


class Unchanging(list):
    """A list that may be read alone."""

    def refuse(self, *_):
        raise AssertionError("what is handed in is changed")

    append = extend = insert = remove = pop = clear = sort = reverse = refuse
    __setitem__ = __delitem__ = __iadd__ = __imul__ = refuse


class Lists(Case):
    def test_each_call_number_by_number(self):
        # Each call by itself, as the document writes it, and what is given back for it.
        for told, given in (
                ([0, 1, 0], [1, 0]),
                ([0, 9, 1, 7, 1, 1, 2, 1, 1, 1, 0], [1, 0]),
                ([0, 2, 1, 0], [1, -1]),
                ([0, 9, 2, 6, 21, 31, 24, 36, 28, 39, 7], [1, 0]),
                ([0, 3, 2, 0, 7], [1, -1]),
                ([0, 11, 3, 7, 0, 0, 0, 0, 0, 0, 0, 1, 7], [1, 0]),
                ([0, 4, 3, 0, 1, 7], [1, -1]),
                ([0, 2, 4, 0], [1, 0]),
                ([0, 11, 4, 1, 14, 2, 2, 3, 2, 0, 5, 2, 1], [1, 1]),
                ([0, 8, 4, 2, 14, 2, 0, 16, 3, 0], [1, 2]),
                ([0, 2, 5, 0], [1, -2]),
                ([0, 1, 6], [4, 0, 2, 1, 1]),
                ([0, 1, 7], [1, 0]),
                ([0, 2, 8, 0], [1, 0]),
                ([0, 9, 8, 1, 3, 21, 2, 25, 2, 30, 2], [1, -1])):
            self.assertEqual(answers(told), given)

    def test_a_line_number_by_number(self):
        told = [0, 9, 2, 6, 21, 22, 25, 26, 30, 31, 7,
                0, 20, 4, 2, 14, 2, 2, 3, 2, 0, 5, 2, 0, 15, 2, 2, 3, 1, 0, 5, 2, 0,
                0, 2, 5, 1,
                0, 1, 6,
                0, 11, 3, 7, 10, 100, 0, 0, 0, 0, 0, 1, 7,
                0, 1, 7,
                0, 16, 8, 2, 3, 21, 2, 25, 2, 30, 2, 3, 22, 2, 26, 2, 31, 1,
                0, 16, 8, 2, 3, 21, 2, 25, 2, 30, 2, 3, 22, 2, 26, 2, 31, 2]
        self.assertEqual(answers(told), [
            1, 0,
            1, 2,
            8, 1, 6, 22, 2, 26, 2, 31, 1,
            4, 0, 2, 0, 0,
            1, 0,
            15, 124, 6, 21, 2, 25, 2, 30, 2, 6, 22, 2, 26, 2, 31, 1,
            16, 3, 4, 0, 1, 0, 2, 4, 0, 1, 1, 2, 4, 0, 2, 0, 1,
            3, -3, 1, 1])

    def test_a_count_ahead_of_each_answer(self):
        given = answers(joined(EVERY_CALL))
        place = 0
        for _ in EVERY_CALL:
            place += 1 + given[place]
        self.assertEqual(place, len(given))

    def test_whole_numbers_in_a_list(self):
        given = answers(joined(EVERY_CALL))
        self.assertIs(type(given), list)
        self.assertEqual({type(number) for number in given}, {int})

    def test_a_call_asks_of_all_ahead_of_it_alone(self):
        found = ask(*EVERY_CALL)
        self.assertEqual(len(found), len(EVERY_CALL))
        for count in range(1, len(EVERY_CALL) + 1):
            self.assertEqual(ask(*EVERY_CALL[:count]), found[:count])

    def test_begins_cuts_a_line(self):
        self.assertEqual(ask(*EVERY_CALL, begins(), *EVERY_CALL), ask(*EVERY_CALL) + [[0]] + ask(*EVERY_CALL))

    def test_any_call_first(self):
        self.assertEqual([ask(told)[0] for told in (begins(), key(1, 1, 1, 1, 1, 1, 1), voices((0,) * 6, 0),
                                                    rules(NO_COST, 0, 0), bass("c2"), voicings(0), ways(), best(),
                                                    faults())],
                         [[0], [0], [0], [0], [1], [-2], [0, 2, 1, 1], [0], [0]])

    def test_sixty_calls(self):
        self.assertEqual(ask(*[ways()] * 60), [[0, 2, 1, 1]] * 60)

    def test_the_longest_lists(self):
        chord = [14, 2, 60] + [3, 2, 0] * 60
        self.assertEqual(ask(call(4, 60, *chord * 60), ways()), [[-1], [0, 2, 1, 1]])
        voicing = [60] + [21, 2] * 60
        self.assertEqual(ask(bass("c2"), call(8, 60, *voicing * 60), voicings(1)), [[1], [-1], [-2]])


class NothingKept(Case):
    def test_what_is_handed_in_stays(self):
        told = joined(EVERY_CALL)
        copied = list(told)
        answers(told)
        self.assertEqual(told, copied)
        self.assertEqual(answers(Unchanging(copied)), answers(told))

    def test_a_second_time(self):
        told = joined(EVERY_CALL)
        first = answers(told)
        self.assertEqual(answers(told), first)
        answers(joined([key(2, 2, 2, 2, 2, 2, 2), voices((0, 1, 2, 3, 4, 5), 1), rules(NO_COST, 0, 0), bass("c0")]))
        self.assertEqual(answers(told), first)

    def test_what_is_given_back_may_be_changed(self):
        told = joined(EVERY_CALL)
        first = answers(told)
        kept = list(first)
        first.clear()
        self.assertEqual(answers(told), kept)

    def test_each_list_is_a_line_of_its_own(self):
        answers(joined([bass("c2 3 5")]))
        self.assertEqual(ask(voicings(0), ways()), [[-2], [0, 2, 1, 1]])

    def test_prints_nothing(self):
        printed = io.StringIO()
        with contextlib.redirect_stdout(printed), contextlib.redirect_stderr(printed):
            answers(joined(EVERY_CALL))
        self.assertEqual(printed.getvalue(), "")

    def test_imports_nothing_from_outside(self):
        for path in PACKAGE.glob("*.py"):
            for node in ast.walk(ast.parse(path.read_text(encoding="utf-8"))):
                self.assertNotIsInstance(node, ast.Import)
                if isinstance(node, ast.ImportFrom):
                    self.assertEqual(node.module.split(".")[0], "voicesled")


if __name__ == "__main__":
    unittest.main()
