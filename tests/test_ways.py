"""Promises 7 and 8: ways and best."""

import unittest

from tests.helper import (Case, NO_COST, ask, bass, begins, best, faults, key, last, rules, told_best, told_faults,
                          told_voicings, voices, voicings, ways)
from tests.test_voicings import SIXTY, SIXTY_ONE

# The one chord has three voicings here, the other two.
NARROW = voices((21, 23, 25, 26, 28, 31), 7)
TWO = bass("c2 3 5", "f2 3 5")
# For each rule chords that have one voicing each, between which there is a fault of that rule alone:
# the steps of the ranges, leap, chords, voicings, voices of the fault, by how many half tones they go.
SINGLE = {
    1: ((23, 25, 28, 28, 30, 30), 7, ("a1 3 5", "c2 3 5"), ("e3 c4 e4", "g3 c4 e4"), (0, 1), 3),
    2: ((18, 19, 21, 22, 28, 29), 7, ("e2 3 6", "f2 3 6"), ("g2 c3 c4", "a2 d3 d4"), (2, 3), 6),
    3: ((23, 24, 27, 28, 32, 34), 7, ("d2 3 6", "c2 3 5"), ("f3 b3 b4", "e3 c4 g4"), (0, 3), 6),
    4: ((21, 21, 23, 23, 25, 25), 7, ("c2 3 5", "c2 3 #5"), ("c3 e3 g3", "c3 e3 g#3"), (3, 3), 1),
    5: ((23, 23, 25, 25, 28, 30), 1, ("c2 3:1 5", "a1 5 7"), ("e3 g3 c4", "e3 g3 e4"), (3, 3), 4),
    6: ((18, 19, 21, 21, 23, 23), 7, ("c2 3 #5", "a2 3 5"), ("g#2 c3 e3", "a2 c3 e3"), (0, 1), 1),
    7: ((26, 27, 29, 29, 31, 31), 7, ("g2 3:3 5 7", "d2 3 5"), ("b3 d4 f4", "a3 d4 f4"), (1, 1), 2),
}


def cost_of(rule, cost, rest=0):
    return tuple(cost if number == rule else rest for number in range(1, 8))


class Counted(Case):
    """The ways of TWO, one by one, by the voicings of its chords:

    c3 g3 e4 to c3 a3 c4: 6 half tones; to c3 a3 f4: 3;
    e3 g3 c4 to c3 a3 c4: 6; to c3 a3 f4: 11, with faults of rules 2 and 3;
    e3 g3 e4 to c3 a3 c4: 10, with a fault of rule 2; to c3 a3 f4: 7.
    """

    def answers_of_two(self, told_ways, told, *settings):
        self.assertEqual(ask(NARROW, *settings, TWO, ways(), best())[-2:], [[0, 2] + told_ways, told])

    def test_the_voicings(self):
        self.answers_last(told_voicings("c3 g3 e4", "e3 g3 c4", "e3 g3 e4"), NARROW, TWO, voicings(0))
        self.answers_last(told_voicings("c3 a3 c4", "c3 a3 f4"), NARROW, TWO, voicings(1))

    def test_as_at_the_beginning(self):
        self.answers_of_two([4, 1], told_best(3, "c3 g3 e4", "c3 a3 f4"))

    def test_faults_at_a_price(self):
        self.answers_of_two([6, 1], told_best(30, "c3 g3 e4", "c3 a3 f4"), rules((1, 2, 3, 4, 5, 6, 7), 10, 7))

    def test_several_best_ways_and_the_first_is_told(self):
        self.answers_of_two([6, 4], told_best(0, "c3 g3 e4", "c3 a3 c4"), rules((1, 2, 3, 4, 5, 6, 7), 0, 7))
        self.answers_of_two([6, 6], told_best(0, "c3 g3 e4", "c3 a3 c4"), rules(NO_COST, 0, 7))

    def test_leaps_of_more_than_a_step_are_barred(self):
        self.answers_of_two([1, 1], told_best(0, "c3 g3 e4", "c3 a3 f4"), rules(cost_of(5, 1000), 0, 1))

    def test_leaps_at_a_price(self):
        # One leaps: c3 g3 e4 to c3 a3 c4, e3 g3 c4 to c3 a3 c4, e3 g3 e4 to c3 a3 f4.
        self.answers_of_two([6, 1], told_best(3, "c3 g3 e4", "c3 a3 f4"), rules(cost_of(5, 2), 1, 1))
        self.answers_of_two([6, 1], told_best(0, "c3 g3 e4", "c3 a3 f4"), rules(cost_of(5, 2), 0, 1))

    def test_one_rule_barred(self):
        self.answers_of_two([4, 1], told_best(3, "c3 g3 e4", "c3 a3 f4"), rules(cost_of(2, 1000), 1, 7))
        self.answers_of_two([5, 1], told_best(3, "c3 g3 e4", "c3 a3 f4"), rules(cost_of(3, 1000), 1, 7))


class Prices(Case):
    def line(self, rule, costs, move):
        steps, leap, chords, _, _, _ = SINGLE[rule]
        return [voices(steps, 7), rules(costs, move, leap), bass(*chords)]

    def test_there_is_one_way_with_one_fault(self):
        for rule, (_, _, _, told, pair, _) in SINGLE.items():
            line = self.line(rule, NO_COST, 0)
            self.answers_last(told_voicings(told[0]), *line, voicings(0))
            self.answers_last(told_voicings(told[1]), *line, voicings(1))
            self.answers_last(told_faults((0, rule) + pair), *line, faults(*told))

    def test_what_a_fault_and_what_moving_costs(self):
        for rule, (_, _, _, told, _, half_tones) in SINGLE.items():
            for cost in (0, 1, 999):
                for move in (0, 1, 100):
                    line = self.line(rule, cost_of(rule, cost, rest=1000), move)
                    self.answers_last([0, 2, 1, 1], *line, ways())
                    self.answers_last(told_best(cost + move * half_tones, *told), *line, best())

    def test_a_cost_of_1000_bars(self):
        for rule in SINGLE:
            line = self.line(rule, cost_of(rule, 1000), 1)
            self.answers_last([0, 2, 0, 0], *line, ways())
            self.refused(-6, *line, best())

    def test_each_fault_costs(self):
        # Twice rule 1, once rule 2, and five half tones, there and back.
        line = [voices((21, 22, 25, 26, 30, 31), 7), rules((10, 100, 0, 0, 0, 0, 0), 1, 7)]
        line.append(bass("c2 3 5", "d2 3 5", "c2 3 5"))
        self.answers_last([0, 2, 1, 1], *line, ways())
        self.answers_last(told_best(250, "c3 g3 e4", "d3 a3 f4", "c3 g3 e4"), *line, best())

    def test_the_basss_moving_costs_nothing(self):
        line = [voices((25, 25, 28, 28, 30, 30), 7), rules(NO_COST, 100, 7), bass("c2 3 5", "c1 3 5")]
        self.answers_last(told_best(0, "g3 c4 e4", "g3 c4 e4"), *line, best())


class Edges(Case):
    def test_without_chords(self):
        for settings in ([], [bass()], [bass("c2 3 5"), bass()], [bass("c2 3 5"), begins()],
                         [bass("c2 3 5"), key(1, 1, 1, 1, 1, 1, 1)], [SIXTY_ONE]):
            self.answers_last([0, 2, 1, 1], *settings, ways())
            self.answers_last([0], *settings, best())

    def test_one_chord(self):
        told = last(bass("c2 3 5"), voicings(0))
        self.answers_last([0, 2, told[0], told[0]], bass("c2 3 5"), ways())
        self.answers_last([0] + told[1:8], bass("c2 3 5"), best())

    def test_a_chord_without_a_voicing(self):
        for chords in (["c6"], ["c6", "c2 3 5"], ["c2 3 5", "c6"], ["c2 3 5", "c6", "c2 3 5"]):
            self.answers_last([0, 2, 0, 0], bass(*chords), ways())
            self.refused(-6, bass(*chords), best())

    def test_a_bass_without_a_way(self):
        line = [voices((21, 22, 25, 26, 30, 31), 7), bass("c2 3 5", "d2 3 5")]
        self.assertEqual([last(*line, voicings(k))[0] for k in (0, 1)], [1, 1])
        self.answers_last([0, 2, 0, 0], *line, ways())
        self.refused(-6, *line, best())

    def test_a_way_that_ends_early_is_none(self):
        line = [voices((21, 22, 25, 26, 30, 31), 7), bass("c2 3 5", "c2 3 5", "d2 3 5")]
        self.answers_last([0, 2, 0, 0], *line, ways())
        line = [voices((21, 22, 25, 26, 30, 31), 7), bass("c2 3 5", "d2 3 5", "d2 3 5")]
        self.answers_last([0, 2, 0, 0], *line, ways())

    def test_what_leads_nowhere_is_not_the_best(self):
        # c3 g3 e4 goes on to c3 a3 f4 for 3, but from there the soprano can't come to c4.
        line = [NARROW, rules(cost_of(5, 1000), 1, 2), bass("c2 3 5", "f2 3 5", "a1 3")]
        self.answers_last([0, 2, 3, 2], *line, ways())
        self.answers_last(told_best(6, "c3 g3 e4", "c3 a3 c4", "c3 a3 c4"), *line, best())

    def test_60_voicings(self):
        self.answers_last([0, 2, 60, 60], SIXTY, bass("c1 3 5"), ways())
        first = last(SIXTY, bass("c1 3 5"), voicings(0))[1:8]
        self.answers_last([0] + first, SIXTY, bass("c1 3 5"), best())

    def test_61_voicings(self):
        few = "c1 3:1 5:1 7:1"
        for chords in (["c1 3 5"], ["c1 3 5", few], [few, "c1 3 5"], [few, "c1 3 5", few]):
            self.refused(-8, SIXTY_ONE, bass(*chords), ways())
            self.refused(-8, SIXTY_ONE, bass(*chords), best())

    def test_too_many_comes_ahead_of_no_way(self):
        for chords in (["c1 3 5", "c6"], ["c6", "c1 3 5"]):
            self.answers_last([-8], SIXTY_ONE, bass(*chords), ways())
            self.answers_last([-8], SIXTY_ONE, bass(*chords), best())

    def test_as_many_as_there_are(self):
        line = [SIXTY, rules(NO_COST, 0, 48), bass(*["c1 3 5"] * 8)]
        self.answers_last([0, 2, 60 ** 8, 60 ** 8], *line, ways())
        first = last(*line, voicings(0))[1:8]
        self.answers_last([0] + first * 8, *line, best())
        line = [SIXTY, rules(NO_COST, 1, 48), bass(*["c1 3 5"] * 8)]
        self.answers_last([0, 2, 60 ** 8, 60], *line, ways())


class Asked(Case):
    def test_in_any_order_and_again(self):
        self.assertEqual(ask(NARROW, TWO, best(), ways(), best(), ways())[2:],
                         ask(NARROW, TWO, best(), ways())[2:] * 2)

    def test_after_each_change(self):
        told = [NARROW, TWO, rules(NO_COST, 0, 7), voices((20, 25, 22, 28, 24, 32), 7), bass("d2 3 6", "e2 3 6"),
                key(1, 1, 1, 2, 1, 1, 1), bass("c2 4 6"), begins()]
        for count in range(1, len(told) + 1):
            between = [call for change in told[:count] for call in (change, ways(), best())]
            self.assertEqual(ask(*between)[-2:], ask(*told[:count], ways(), best())[-2:])


if __name__ == "__main__":
    unittest.main()
