"""Promise 9: faults, and the seven rules each by itself."""

import unittest

from tests.helper import Case, NO_COST, WIDE, bass, faults, key, notes, raw_faults, rules, told_faults, voices

HUGE = 4294967295


class Faulty(Case):
    """Asks for the faults from one chord to the next, in ranges that hold every note."""

    def found(self, chords, told, expected, leap=48):
        """expected has the rule and the two voices of each fault."""
        self.answers_last(told_faults(*[(0,) + row for row in expected]), voices(WIDE, 14), rules(NO_COST, 0, leap),
                          bass(*chords), faults(*told))


class Fifths(Faulty):
    def test_each_pair(self):
        for chords, told, pair in (
                (("a1 3 5", "c2 3 5"), ("e3 c4 e4", "g3 c4 e4"), (0, 1)),
                (("a1 3 5", "c2 3 5"), ("c3 e3 e4", "c3 g3 e4"), (0, 2)),
                (("a2 3 5", "c2 3 5"), ("c3 e3 e3", "c3 e3 g3"), (0, 3)),
                (("a1 3 5", "b1 3 6"), ("a2 e3 c4", "g2 d3 b3"), (1, 2)),
                (("a1 3 5", "b1 3 6"), ("a2 c3 e3", "g2 b2 d3"), (1, 3)),
                (("a1 3 5", "b1 3 6"), ("c3 a3 e4", "b2 g3 d4"), (2, 3))):
            self.found(chords, told, [(1,) + pair])

    def test_pairs_in_order(self):
        self.found(("c2 5", "d2 5"), ("g2 g3 g4", "a2 a3 a4"),
                   [(1, 0, 1), (1, 0, 2), (1, 0, 3), (2, 1, 2), (2, 1, 3), (2, 2, 3)])
        self.found(("c2 5", "d2 5"), ("c3 c4 g4", "d3 d4 a4"),
                   [(1, 0, 3), (1, 1, 3), (1, 2, 3), (2, 0, 1), (2, 0, 2), (2, 1, 2)])

    def test_both_must_move(self):
        self.found(("c2 3 5", "c2 3 5"), ("e3 c4 g4", "e3 c4 g5"), [])
        self.found(("c1 3 5", "c2 3 5"), ("g2 e3 e3", "g2 e3 e3"), [])

    def test_another_octave_is_another_note(self):
        self.found(("c1 3 5", "c2 3 5"), ("g2 e3 e4", "g3 e4 e4"), [(1, 0, 1), (6, 1, 2)])

    def test_another_raising_is_another_note(self):
        self.found(("c#2 #3 #5", "c2 3 5"), ("g#2 e#3 e#4", "g2 e3 e4"), [(1, 0, 1), (2, 2, 3)])

    def test_it_must_be_a_fifth_before_and_behind(self):
        # From b up to f there are four steps, but six half tones.
        self.found(("a1 3 5", "b1 3 5"), ("e3 c4 c5", "f3 d4 b4"), [])
        self.found(("b1 3 5", "a1 3 5"), ("f3 d4 b4", "e3 c4 c5"), [])
        self.found(("b1 3 #5", "c2 3 5"), ("f#3 d4 b4", "g3 e4 e5"), [(1, 0, 1)])

    def test_seven_half_tones_of_five_steps_are_none(self):
        self.found(("c2 bb6", "d2 bb6"), ("abb2 c3 c4", "bbb2 d3 d4"), [(2, 0, 2), (2, 0, 3), (2, 2, 3)])

    def test_the_fourth_is_none(self):
        self.found(("e2 3 6", "f2 3 6"), ("g2 c3 e4", "a2 d3 d4"), [])


class Octaves(Faulty):
    def test_each_pair(self):
        for chords, told, pair in (
                (("a1 3 5", "c2 3"), ("a2 e3 c4", "c3 e3 c4"), (0, 1)),
                (("a1 3 5", "c2 3"), ("c3 a3 e4", "c3 c4 e4"), (0, 2)),
                (("a2 3 5", "c2 3"), ("c3 e3 a3", "c3 e3 c4"), (0, 3)),
                (("e2 3 6", "f2 3 6"), ("g2 g3 c4", "a2 a3 d4"), (1, 2)),
                (("e2 3 6", "f2 3 5"), ("g2 c3 g3", "a2 c3 a3"), (1, 3)),
                (("e2 3 6", "f2 3 6"), ("g2 c3 c4", "a2 d3 d4"), (2, 3))):
            self.found(chords, told, [(2,) + pair])

    def test_a_unison_is_one_too(self):
        self.found(("e2 3 6", "f2 3 6"), ("g2 c3 c3", "a2 d3 d3"), [(2, 2, 3), (6, 2, 3)])
        self.found(("e2 3 6", "f2 3 6"), ("g2 c3 c3", "a2 d3 d4"), [(2, 2, 3), (6, 2, 3)])
        self.found(("e2 3 6", "f2 3 6"), ("g2 c3 c4", "a2 d3 d3"), [(2, 2, 3)])
        self.found(("e2 3 6", "f2 3 6"), ("g2 c3 c5", "a2 d3 d4"), [(2, 2, 3)])

    def test_both_must_move(self):
        self.found(("c2 3 5", "c2 3 5"), ("g2 c3 e3", "g2 c4 e4"), [(6, 2, 3)])
        self.found(("c2 3 5", "c1 3 5"), ("g2 c3 e3", "g2 c3 e3"), [])

    def test_it_must_be_an_octave_before_and_behind(self):
        self.found(("c2 3 5", "d2 3 5"), ("e3 g3 c4", "d3 a3 f4"), [(1, 0, 2)])

    def test_alike_heights_of_other_steps_are_none(self):
        # c raised by one and d lowered by one are alike high, so are d and e lowered by two.
        self.found(("c#2 b2", "d2 bb2"), ("db3 db4 c#5", "ebb3 ebb4 d5"), [(2, 0, 3), (2, 1, 2)])

    def test_another_raising_is_another_note(self):
        self.found(("c2 3 5", "c#2 3 5"), ("e3 g3 c4", "e3 g3 c#4"), [(2, 0, 3), (4, 3, 3)])

    def test_behind_the_fifths(self):
        self.found(("c2 3 5", "d2 3 5"), ("c3 g3 e4", "d3 a3 f4"), [(1, 0, 2), (1, 1, 2), (2, 0, 1)])


class Hidden(Faulty):
    def test_to_a_fifth(self):
        self.found(("c2 3 5", "f2 3 5"), ("g3 c4 e4", "a3 c4 c5"), [(3, 0, 3)])
        self.found(("d2 3 6", "c2 3 5"), ("f3 b3 b4", "e3 c4 g4"), [(3, 0, 3)])

    def test_to_an_octave(self):
        self.found(("e2 3 6", "g2 3 5"), ("g3 c4 c5", "b3 d4 g5"), [(3, 0, 3)])
        self.found(("g2 3 5", "e2 3 6"), ("b3 d4 b4", "g3 c4 e4"), [(3, 0, 3)])

    def test_behind_fifths_and_octaves(self):
        self.found(("c2 5", "f2 5"), ("c3 g3 g3", "f3 c4 c4"),
                   [(1, 0, 2), (1, 0, 3), (1, 1, 2), (1, 1, 3), (2, 0, 1), (2, 2, 3), (3, 0, 3), (6, 2, 3)])

    def test_the_soprano_goes_by_a_step(self):
        self.found(("c2 3 5", "f2 3 5"), ("c3 g3 e4", "c3 a3 f4"), [])
        self.found(("f2 3 5", "e2 3 6"), ("a3 c4 f4", "g3 c4 e4"), [(2, 0, 3)])

    def test_one_goes_up_and_one_down(self):
        self.found(("c2 3 5", "f1 3 5"), ("g3 c4 e4", "a3 c4 c5"), [])
        self.found(("d2 3 6", "c3 3 5"), ("f3 b3 b4", "e3 c4 g4"), [])

    def test_one_of_them_stays(self):
        self.found(("c2 3 5", "c2 3 5"), ("c3 g3 e4", "c3 e3 g4"), [])
        self.found(("e2 3 6", "c2 3 5"), ("e3 c4 g4", "e3 c4 g4"), [])

    def test_higher_is_told_by_half_tones(self):
        # e raised by two and g lowered by one are alike high: the soprano doesn't go higher.
        self.found(("a1 ##5", "cb2 b5"), ("e##3 a3 e##4", "gb3 cb4 gb4"), [(2, 0, 2), (2, 1, 3)])

    def test_higher_by_one_half_tone(self):
        # From d raised by two to f there is one half tone, but there are two steps.
        self.found(("a1 ##4", "bb1 5"), ("a2 a3 d##4", "bb2 bb3 f4"), [(2, 0, 1), (2, 0, 2), (2, 1, 2), (3, 0, 3)])

    def test_a_fifth_of_six_half_tones_is_none(self):
        self.found(("a1 3 4", "b1 3 5"), ("c3 d3 d4", "d3 d3 f4"), [])

    def test_alto_and_tenor_may(self):
        self.found(("c2 3 5", "f2 3 5"), ("c3 e3 g4", "c3 c4 a4"), [])


class TooWide(Faulty):
    def test_each_voice(self):
        chords = ("c2 3 5", "c2 3 #5")
        self.found(chords, ("g3 c4 e4", "g#3 c4 e4"), [(4, 1, 1)])
        self.found(chords, ("e3 g3 c4", "e3 g#3 c4"), [(4, 2, 2)])
        self.found(chords, ("c3 e3 g3", "c3 e3 g#3"), [(4, 3, 3)])

    def test_voices_in_order(self):
        self.found(("c2 3 5", "c2 #3 #5"), ("e3 g3 e4", "e#3 g#3 e#4"), [(2, 1, 3), (4, 1, 1), (4, 2, 2), (4, 3, 3)])

    def test_of_alike_steps_the_new_one_counts(self):
        self.found(("c2 3 #5", "c2 3 5"), ("c3 e3 g#3", "c3 e3 g3"), [])
        self.found(("c2 3 ##5", "c2 3 5"), ("c3 e3 g##3", "c3 e3 g3"), [])
        self.found(("c2 3 b5", "c2 3 5"), ("c3 e3 gb3", "c3 e3 g3"), [(4, 3, 3)])

    def test_a_second_of_three_half_tones(self):
        self.found(("d2 3 6", "e2 #3 5"), ("f3 b3 b4", "g#3 b3 b4"), [(4, 1, 1)])
        self.found(("e2 #3 5", "d2 3 6"), ("g#3 b3 b4", "f3 b3 b4"), [(4, 1, 1)])

    def test_a_fourth_of_six_half_tones(self):
        chords = ("d2 3 6", "d2 3 6")
        self.found(chords, ("f3 b3 f4", "f3 b3 b4"), [(4, 3, 3)])
        self.found(chords, ("f3 b3 b4", "f3 b3 f4"), [(4, 3, 3)])
        self.found(chords, ("f3 b3 f4", "f3 b3 b3"), [])
        self.found(chords, ("f3 b3 b3", "f3 b3 f4"), [])

    def test_every_width_within_the_octave(self):
        # From c upwards each is just as wide as it may be; raised by one it is wider.
        for steps, name in enumerate("defgab", start=1):
            for sign, expected in (("", []), ("#", [(4, 3, 3)]), ("b", [])):
                chords = ("c2", f"c2 {sign}{steps + 1}")
                self.found(chords, ("c3 c3 c3", f"c3 c3 {name}{sign}3"), expected)
                self.found(chords[::-1], (f"c3 c3 {name}{sign}3", "c3 c3 c3"), expected)

    def test_beyond_the_octave(self):
        self.found(("a1 3 5", "a1 3 5"), ("e3 a3 c4", "e3 a3 c5"), [])
        self.found(("a1 3 5", "a1 #3 5"), ("e3 a3 c4", "e3 a3 c#5"), [(4, 3, 3)])
        self.found(("a1 #3 5", "a1 3 5"), ("e3 a3 c#5", "e3 a3 c4"), [(4, 3, 3)])
        self.found(("a1 3 5", "a1 #3 5"), ("e3 a3 c5", "e3 a3 c#4"), [])
        self.found(("a1 3 5", "a1 4 5"), ("e3 a3 c4", "e3 a3 d5"), [])
        self.found(("a1 3 5", "a1 #4 5"), ("e3 a3 c4", "e3 a3 d#5"), [(4, 3, 3)])
        self.found(("c0", "c0 3"), ("c1 c1 c1", "c1 c3 e3"), [(6, 2, 3)])
        self.found(("c0", "c0 #3"), ("c1 c1 c1", "c1 c3 e#3"), [(4, 3, 3), (6, 2, 3)])

    def test_the_bass_may(self):
        self.found(("f2 5", "b2 2"), ("c4 c4 c5", "c4 c4 c5"), [])


class Leaps(Faulty):
    def test_each_voice(self):
        chords = ("c2 3 5", "c2 3 5")
        for told, voice in ((("c3 g3 e4", "e3 g3 e4"), 1), (("e3 e3 g3", "e3 g3 g3"), 2),
                            (("e3 g3 c4", "e3 g3 e4"), 3)):
            for pair in (told, told[::-1]):
                self.found(chords, pair, [(5, voice, voice)], leap=1)
                self.found(chords, pair, [(5, voice, voice)], leap=0)
                self.found(chords, pair, [], leap=2)

    def test_voices_in_order(self):
        self.found(("c2 3 5", "c2 3 5"), ("c3 e3 g3", "e3 g3 c4"), [(5, 1, 1), (5, 2, 2), (5, 3, 3)], leap=1)
        self.found(("c2 3 5", "c2 3 5"), ("c3 e3 g3", "e3 g3 c4"), [(5, 3, 3)], leap=2)

    def test_it_counts_steps(self):
        self.found(("c2 3 #5", "c2 3 5"), ("c3 e3 g#3", "c3 e3 g3"), [], leap=0)
        self.found(("c2 3 6", "c2 3 5"), ("c3 e3 a3", "c3 e3 g3"), [(5, 3, 3)], leap=0)

    def test_the_widest(self):
        rest = [(2, 1, 2), (2, 1, 3), (2, 2, 3)]
        over = [(6, 1, 2), (6, 2, 3)]
        chords = ("c0", "c0 7")
        told = ("c0 c0 c0", "b6 b6 b6")
        self.found(chords, told, rest + over, leap=48)
        self.found(chords, told, rest + [(5, 1, 1), (5, 2, 2), (5, 3, 3)] + over, leap=47)

    def test_the_bass_may(self):
        self.found(("c2 3 5", "c1 3 5"), ("g2 e3 e3", "g2 e3 e3"), [], leap=0)


class Overlaps(Faulty):
    def test_each_pair(self):
        for chords, told, low in ((("c2 3 #5", "a2 3 5"), ("g#2 c3 e3", "a2 c3 e3"), 0),
                                  (("c2 3 #5", "a1 3 5"), ("g#3 g#3 e4", "a3 c4 e4"), 1),
                                  (("c2 3 #5", "a1 3 5"), ("e3 g#3 g#3", "e3 a3 c4"), 2)):
            self.found(chords, told, [(6, low, low + 1)])
            self.found(chords[::-1], told[::-1], [(6, low, low + 1)])

    def test_pairs_in_order(self):
        self.found(("c1 3 5", "c2 3 5"), ("g1 c2 e2", "e3 g3 c4"), [(3, 0, 3), (6, 0, 1), (6, 1, 2), (6, 2, 3)])

    def test_where_the_neighbour_was_is_not_beyond(self):
        self.found(("c2 3 5", "c2 3 5"), ("c3 e3 g3", "e3 g3 c4"), [])
        self.found(("c2 3 5", "c2 3 5"), ("e3 g3 c4", "c3 e3 g3"), [])
        self.found(("c2 3 5", "e2 3 6"), ("e2 g2 g2", "g2 g2 c3"), [])

    def test_alike_high_is_not_beyond(self):
        self.found(("c1 4", "c1 #3"), ("c2 f2 f3", "e#2 c3 e#3"), [(4, 1, 1)])
        self.found(("c1 4", "c1 ##3"), ("c2 f2 f3", "e##2 c3 e##3"), [(4, 1, 1), (6, 1, 2)])


class WrongWay(Faulty):
    def test_of_sort_2_it_goes_down_a_step(self):
        chord = "g2 3 5 7:2"
        self.found((chord, "c2 3 5"), ("b3 d4 f4", "g3 c4 e4"), [])
        self.found((chord, "c2 b3 5"), ("b3 d4 f4", "g3 c4 eb4"), [])
        self.found((chord, "c2 3 5"), ("b3 d4 f4", "c4 e4 g4"), [(7, 3, 3)])
        self.found((chord, "g2 3 5"), ("b3 d4 f4", "b3 d4 d4"), [(7, 3, 3)])
        self.found((chord, "d2 #3 5"), ("b3 d4 f4", "a3 d4 f#4"), [(4, 3, 3), (7, 3, 3)])
        self.found((chord, "c2 3 5"), ("b3 d4 f4", "g3 c4 e5"), [(7, 3, 3)])

    def test_of_sort_3_it_goes_up_a_step(self):
        chord = "g2 3:3 5 7"
        self.found((chord, "c2 3 5"), ("b3 d4 f4", "c4 e4 g4"), [])
        self.found((chord, "a2 #3 5"), ("b3 d4 f4", "c#4 c#4 e4"), [])
        self.found((chord, "d2 3 5"), ("b3 d4 f4", "a3 d4 f4"), [(7, 1, 1)])
        self.found((chord, "g2 5"), ("b3 d4 f4", "d4 d4 d4"), [(7, 1, 1)])
        self.found((chord, "g2 b3 5"), ("b3 d4 f4", "bb3 d4 d4"), [(7, 1, 1)])
        self.found((chord, "c2 3 5"), ("b3 d4 f4", "c3 e4 g4"), [(7, 1, 1)])

    def test_it_may_stay(self):
        self.found(("g2 3:3 5 7:2", "g2 3:3 5 7:2"), ("b3 d4 f4", "b3 d4 f4"), [])
        self.found(("g2 3:3 5 7:2", "d2 3 6"), ("b3 d4 f4", "b3 d4 f4"), [])

    def test_each_voice_in_order(self):
        chord = "g2 3:2 5:3 7:2"
        self.found((chord, "c2 3"), ("b3 d4 f4", "c4 c4 e4"), [(7, 1, 1), (7, 2, 2)])
        self.found((chord, "c2 5"), ("b3 d4 f4", "c4 c4 g4"), [(7, 1, 1), (7, 2, 2), (7, 3, 3)])
        self.found((chord, "c2 3 5"), ("d4 f4 b4", "e4 g4 c5"), [(7, 2, 2), (7, 3, 3)])
        self.found((chord, "c2 3 6"), ("d4 f4 b4", "c4 e4 a4"), [(7, 1, 1)])

    def test_of_sorts_0_and_1_it_goes_anywhere(self):
        self.found(("g2 3:1 5 7:1", "c2 3 5"), ("b3 d4 f4", "g3 e4 g4"), [])
        self.found(("g2 3 5 7", "d2 5"), ("b3 d4 f4", "a3 d4 a4"), [])

    def test_the_sort_is_the_one_before(self):
        self.found(("c2 3 5", "g2 3:3 5 7:2"), ("e3 c4 g4", "b3 d4 f4"), [])

    def test_the_basss_tone_is_free(self):
        self.found(("g2 3:3 5:1", "d2 3 5"), ("g3 b3 d4", "a3 d4 f4"), [(7, 2, 2)])
        self.found(("b2 3 5", "a2 3 5"), ("b3 d4 f4", "a3 c4 e4"), [(2, 0, 1)])


class Faults(Case):
    def test_no_faults(self):
        self.answers_last([0], bass("c2 3 5"), faults("c3 g3 e4"))
        self.answers_last([0], bass("c2 3 5", "c2 3 5"), faults("c3 g3 e4", "c3 g3 e4"))

    def test_no_chords(self):
        self.answers_last([0], raw_faults([]))
        self.answers_last([-1], raw_faults([notes("c3 g3 e4")]))

    def test_chord_by_chord(self):
        told = [bass("c2 3 5", "d2 3 5", "d2 3 5", "c2 3 5")]
        way = faults("c3 g3 e4", "d3 a3 f4", "d3 a3 f4", "c3 g3 e4")
        expected = [(0, 1, 0, 2), (0, 1, 1, 2), (0, 2, 0, 1), (2, 1, 0, 2), (2, 1, 1, 2), (2, 2, 0, 1)]
        self.answers_last(told_faults(*expected), *told, way)

    def test_in_the_rules_order(self):
        told = [voices(WIDE, 14), rules(NO_COST, 0, 3), bass("c2 3:2 5", "f2 #3 5")]
        expected = [(0, 1, 0, 3), (0, 3, 0, 3), (0, 4, 1, 1), (0, 5, 1, 1), (0, 5, 2, 2), (0, 6, 1, 2), (0, 6, 2, 3),
                    (0, 7, 2, 2)]
        self.answers_last(told_faults(*expected), *told, faults("c3 e3 g3", "a#3 c4 c4"))

    def test_whatever_they_cost(self):
        told = [bass("c2 3 5", "d2 3 5"), faults("c3 g3 e4", "d3 a3 f4")]
        expected = told_faults((0, 1, 0, 2), (0, 1, 1, 2), (0, 2, 0, 1))
        for cost in (0, 5, 1000):
            self.answers_last(expected, rules((cost,) * 7, 0, 7), *told)

    def test_not_as_many_as_chords(self):
        told = [bass("c2 3 5", "c2 3 5")]
        for count in (0, 1, 3, 9, 60):
            self.refused(-1, *told, faults(*["c3 g3 e4"] * count))

    def test_not_just_three_notes(self):
        told = [bass("c2 3 5", "c2 3 5")]
        for names in ("", "c3", "c3 g3", "c3 g3 e4 g4", " ".join(["c3"] * 60)):
            self.refused(-1, *told, faults(names, "c3 g3 e4"))
            self.refused(-1, *told, faults("c3 g3 e4", names))

    def test_a_step_above_48(self):
        told = [voices(WIDE, 14), bass("b5", "b5")]
        self.answers_last([0], *told, raw_faults([[(48, 0)] * 3, [(48, 0)] * 3]))
        for place in range(3):
            for step in (49, 55, HUGE):
                voicing = [(48, 0)] * 3
                voicing[place] = (step, 0)
                self.refused(-1, *told, raw_faults([[(48, 0)] * 3, voicing]))
                self.refused(-1, *told, raw_faults([voicing, [(48, 0)] * 3]))

    def test_not_a_voicing(self):
        told = [voices((21, 25, 21, 32, 21, 32), 7), bass("c2 3 5:1", "c2 3 5:1", "c2 3 5:1")]
        good = "c3 e3 g3"
        self.answers_last([0], *told, faults(good, good, good))
        for bad in ("d3 e3 g3", "c#3 e3 g3", "c3 e3 g#3", "c3 e3 e3", "c3 g3 g3", "c3 g3 e3", "e3 c3 g3",
                    "c2 e3 g3", "c4 e4 g4", "c3 e3 g4", "c3 g4 g4", "e3 g3 g4", "c3 e3 g5", "c3 e4 g4"):
            self.answers_last([-3, 1, 0], *told, faults(bad, good, good))
            self.answers_last([-3, 1, 1], *told, faults(good, bad, good))
            self.answers_last([-3, 1, 2], *told, faults(good, good, bad))
            self.answers_last([-3, 1, 1], *told, faults(good, bad, bad))
            self.refused(-3, *told, faults(good, bad, good))

    def test_the_bass_is_higher(self):
        self.answers_last([-3, 1, 0], bass("c4 3 5"), faults("c3 g3 e4"))
        self.answers_last([-3, 1, 0], bass("c4 3 5"), faults("g3 c4 e4"))

    def test_step_and_voice_count_come_ahead_of_voicings(self):
        told = [bass("c2 3 5", "c2 3 5")]
        self.refused(-1, *told, faults("d3 d3 d3", "c3 g3"))
        self.refused(-1, *told, raw_faults([notes("d3 d3 d3"), [(21, 0), (25, 0), (49, 0)]]))
        self.refused(-1, *told, faults("d3 d3 d3"))

    def test_of_chords_with_too_many_voicings(self):
        told = [voices(WIDE, 14), bass("c1 3 5", "d1 3 5")]
        self.answers_last(told_faults((0, 1, 0, 2), (0, 1, 1, 2), (0, 2, 0, 1)), *told, faults("c3 g3 e4", "d3 a3 f4"))

    def test_in_another_key(self):
        told = [key(1, 1, 2, 1, 1, 1, 1), bass("c2 3 5")]
        self.answers_last([0], *told, faults("c3 g3 e#4"))
        self.answers_last([-3, 1, 0], *told, faults("c3 g3 e4"))


if __name__ == "__main__":
    unittest.main()
