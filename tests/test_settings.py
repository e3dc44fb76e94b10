"""Promises 1 to 4: begins, key, voices, rules."""

import unittest

from tests.helper import (Case, NO_COST, WIDE, ask, bass, begins, best, faults, key, last, raw_faults, rules, told_best,
                          told_faults, told_voicings, voices, voicings, ways)

FIRST_STEPS = (21, 31, 24, 36, 28, 39)
FIRST_COSTS = (1000,) * 7
HUGE = 4294967295
BASSES = [
    bass("c2 3 5", "d2 3 5", "g1 3 5", "c2 3 5"),
    bass("f2 3 5", "e2 3 6", "d2 3 6", "g2 3:3 5 7:2", "c2 3 5"),
    bass("g2 3 5", "a2 3 5", "a2 #3 5"),
    bass("d2 3 5", "b1 3 6"),
    bass("e2 3 5", "e2 #3 5"),
] + [bass(f"{letter}2 3 7", f"{letter}2 3 5") for letter in "cdefgab"]


def look(*settings):
    """What is answered of some basses after these settings."""
    found = []
    for told in BASSES:
        found += ask(*settings, told, voicings(0), voicings(1), ways(), best())[len(settings):]
    return found


def differ(*settings):
    """Whether these settings are seen in what is answered."""
    return look(*settings) != look()


def changed(numbers, place, number):
    return tuple(number if at == place else old for at, old in enumerate(numbers))


class Begins(Case):
    def test_answers_0(self):
        self.answers_last([0], begins())

    def test_there_are_no_chords(self):
        self.answers_last([-2], bass("c2 3 5"), begins(), voicings(0))
        self.answers_last([0, 2, 1, 1], bass("c2 3 5"), begins(), ways())

    def test_all_is_as_at_the_beginning(self):
        settings = [key(2, 2, 2, 2, 2, 2, 2), voices((20, 33, 20, 33, 20, 33), 3), rules(NO_COST, 5, 2)]
        self.assertTrue(differ(*settings))
        self.assertFalse(differ(*settings, begins()))
        for setting in settings:
            self.assertTrue(differ(setting))
            self.assertFalse(differ(setting, begins()))


class Beginning(Case):
    def test_no_letter_is_raised(self):
        self.assertFalse(differ(key(1, 1, 1, 1, 1, 1, 1)))
        for place in range(7):
            for letter in (0, 2):
                self.assertTrue(differ(key(*changed((1,) * 7, place, letter))), (place, letter))

    def test_ranges_and_apart(self):
        self.assertFalse(differ(voices(FIRST_STEPS, 7)))
        for apart in (6, 8):
            self.assertTrue(differ(voices(FIRST_STEPS, apart)), apart)
        for place, step in enumerate(FIRST_STEPS):
            for other in (step - 1, step + 1):
                self.assertTrue(differ(voices(changed(FIRST_STEPS, place, other), 7)), (place, other))

    def test_costs_and_move(self):
        self.assertFalse(differ(rules(FIRST_COSTS, 1, 7)))
        for place in (0, 1, 2, 3, 5, 6):
            self.assertTrue(differ(rules(changed(FIRST_COSTS, place, 999), 1, 7)), place)
        for move in (0, 2):
            self.assertTrue(differ(rules(FIRST_COSTS, move, 7)), move)

    def test_leap(self):
        told = [voices(WIDE, 14), bass("c2 3 5", "c2 2 5")]
        self.answers_last(told_faults(), *told, faults("e3 g3 c4", "d3 g3 c5"))
        self.answers_last(told_faults((0, 5, 3, 3)), *told, faults("e3 g3 c4", "c3 g3 d5"))

    def test_what_a_leap_costs(self):
        told = [voices((23, 23, 25, 25, 25, 41), 14), bass("c2 3 5", "c2 3 5")]
        fewer = last(*told, ways())
        self.assertEqual(fewer, last(rules(FIRST_COSTS, 1, 7), *told, ways()))
        self.assertLess(fewer[2], last(rules(changed(FIRST_COSTS, 4, 999), 1, 7), *told, ways())[2])


class Key(Case):
    def test_answers_0(self):
        self.answers_last([0], key(0, 1, 2, 0, 1, 2, 0))

    def test_raises_the_letters(self):
        narrow = voices((21, 27, 21, 34, 28, 34), 14)
        for letter in range(1, 7):
            for told in (0, 1, 2):
                letters = changed((1,) * 7, letter, told)
                found = last(narrow, key(*letters), bass(f"c2 {letter + 1}"), voicings(0))
                tenors = {tuple(found[at + 1:at + 3]) for at in range(1, len(found), 7)}
                self.assertEqual(tenors, {(21, 2), (21 + letter, told + 1)})

    def test_does_not_raise_the_bass(self):
        self.answers_last(told_voicings("c3 c3 c3"), key(2, 2, 2, 2, 2, 2, 2), voices((21, 21, 21, 21, 21, 21), 0),
                          bass("c2"), voicings(0))

    def test_the_last_one_holds(self):
        tenor_e = voices((23, 23, 21, 28, 21, 28), 14)
        self.answers_last(told_voicings("eb3 c4 c4"), tenor_e, key(2, 2, 2, 2, 2, 2, 2), key(1, 1, 0, 1, 1, 1, 1),
                          bass("c2 3:1"), voicings(0))

    def test_there_are_no_chords_then(self):
        told = bass("c2 3 5", "c2 3 5")
        self.answers_last([-2], told, key(1, 1, 1, 1, 1, 1, 1), voicings(0))
        self.answers_last([0, 2, 1, 1], told, ways(), key(1, 1, 1, 1, 1, 1, 1), ways())
        self.answers_last([0], told, best(), key(1, 1, 1, 1, 1, 1, 1), best())
        self.answers_last([-1], told, key(1, 1, 1, 1, 1, 1, 1), faults("c3 e4 g4", "c3 e4 g4"))

    def test_leaves_voices_and_rules(self):
        settings = [voices((20, 33, 20, 33, 22, 37), 5), rules((1, 2, 3, 4, 5, 6, 7), 5, 2)]
        self.assertEqual(look(*settings), look(*settings, key(1, 1, 1, 1, 1, 1, 1)))

    def test_not_seven_numbers(self):
        for count in (0, 1, 6, 8, 60):
            self.refused(-1, bass("c2 3 5"), key(*[1] * count))

    def test_a_number_above_2(self):
        for place in range(7):
            for number in (3, 4, HUGE):
                self.refused(-1, bass("c2 3 5", "c2 3 6"), key(*changed((1,) * 7, place, number)))

    def test_a_refusal_leaves_the_key(self):
        held = [voices((23, 23, 21, 28, 21, 28), 14), key(1, 1, 2, 1, 1, 1, 1)]
        self.answers_last(told_voicings("e#3 c4 c4"), *held, key(0, 0, 0, 0, 0, 0, 3), bass("c2 3:1"), voicings(0))


class Voices(Case):
    def test_answers_0(self):
        self.answers_last([0], voices((21, 31, 24, 36, 28, 39), 7))

    def test_each_range_is_that_voices(self):
        self.answers_last(told_voicings("c3 e3 g3"), voices((21, 21, 23, 23, 25, 25), 7), bass("c2 3 5"), voicings(0))
        self.answers_last([0], voices((23, 23, 21, 21, 25, 25), 7), bass("c2 3 5"), voicings(0))

    def test_keeps_the_chords(self):
        self.answers_last(told_voicings("c3 e3 g3"), bass("c2 3 5"), voices((21, 21, 23, 23, 25, 25), 7), voicings(0))

    def test_ways_are_those_of_the_new_ranges(self):
        told = bass("c2 3 5", "f2 3 5")
        first = [told, ways(), best()]
        narrow = voices((21, 24, 23, 26, 28, 31), 7)
        self.assertNotEqual(ask(*first), ask(narrow, *first)[1:])
        self.assertEqual(ask(*first, narrow, ways(), best())[-2:], ask(narrow, *first)[-2:])

    def test_bounds(self):
        self.answers_last([0], voices((48, 48, 48, 48, 48, 48), 14))
        self.answers_last([0], voices((0, 0, 0, 0, 0, 0), 0))
        self.answers_last(told_voicings("g6 b6 b6"), voices((46, 46, 48, 48, 48, 48), 2),
                          bass("g5 3"), voicings(0))

    def test_a_step_above_48(self):
        for place in range(6):
            for step in (49, HUGE):
                steps = changed((0, 48, 0, 48, 0, 48), place, step)
                self.refused(-1, bass("c2 3 5"), voices(steps, 7))
        self.refused(-1, bass("c2 3 5"), voices((49, 49, 0, 48, 0, 48), 7))

    def test_from_a_greater_to_a_lesser_step(self):
        for low in (0, 2, 4):
            steps = changed(changed((20, 30, 20, 30, 20, 30), low, 31), low + 1, 30)
            self.refused(-1, bass("c2 3 5"), voices(steps, 7))

    def test_apart_above_14(self):
        self.answers_last([0], voices(FIRST_STEPS, 14))
        for apart in (15, HUGE):
            self.refused(-1, bass("c2 3 5"), voices(FIRST_STEPS, apart))

    def test_not_six_steps(self):
        for steps in ((), (21,), (21, 31, 24, 36, 28), (21, 31, 24, 36), (21, 31, 24, 36, 28, 39, 40), (7,) * 8,
                      (20,) * 60):
            self.refused(-1, bass("c2 3 5"), voices(steps, 7))


class Rules(Case):
    def test_answers_0(self):
        self.answers_last([0], rules((0, 1, 2, 3, 4, 5, 6), 7, 8))

    def test_bounds(self):
        self.answers_last([0], rules(FIRST_COSTS, 100, 48))
        self.answers_last([0], rules(NO_COST, 0, 0))

    def test_a_cost_above_1000(self):
        for place in range(7):
            for cost in (1001, HUGE):
                self.refused(-1, bass("c2 3 5", "d2 3 5"), rules(changed(NO_COST, place, cost), 2, 3))

    def test_move_above_100(self):
        for move in (101, HUGE):
            self.refused(-1, bass("c2 3 5", "d2 3 5"), rules(NO_COST, move, 7))

    def test_leap_above_48(self):
        for leap in (49, HUGE):
            self.refused(-1, bass("c2 3 5", "d2 3 5"), rules(NO_COST, 2, leap))

    def test_not_seven_costs(self):
        for count in (0, 1, 6, 8, 60):
            self.refused(-1, bass("c2 3 5", "d2 3 5"), rules((0,) * count, 2, 3))

    def test_a_refusal_leaves_costs_move_and_leap(self):
        settings = [rules((1, 2, 3, 4, 5, 6, 7), 5, 2)]
        for refused in (rules((9,) * 6, 3, 3), rules((9,) * 7, 101, 3), rules((9,) * 7, 3, 49)):
            self.assertEqual(look(*settings), look(*settings, refused))

    def test_keeps_the_chords_and_counts_anew(self):
        told = bass("c2 3 5", "d2 3 5")
        free = rules(NO_COST, 0, 48)
        self.assertNotEqual(last(told, ways()), last(free, told, ways()))
        self.assertEqual(last(told, ways(), free, ways()), last(free, told, ways()))
        self.assertEqual(last(told, best(), free, best()), last(free, told, best()))

    def test_leap_holds_for_faults(self):
        wide = voices(WIDE, 14)
        told = bass("c2 3 5", "c2 3 5")
        for leap, expected in ((1, told_faults((0, 5, 3, 3))), (2, told_faults())):
            self.answers_last(expected, wide, rules(NO_COST, 0, leap), told, faults("e3 g3 c4", "e3 g3 e4"))


class NoChords(Case):
    def test_at_the_beginning(self):
        self.answers_last([-2], voicings(0))
        self.answers_last([0, 2, 1, 1], ways())
        self.answers_last(told_best(0), best())
        self.answers_last([0], raw_faults([]))


if __name__ == "__main__":
    unittest.main()
