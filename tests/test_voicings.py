"""Promise 6: voicings, and what a voicing is."""

import unittest

from tests.helper import Case, ask, bass, key, last, told_voicings, voices, voicings, ways

HUGE = 4294967295
# Of these the chord c1 3 5 has just 60 voicings, and just 61.
SIXTY = voices((7, 14, 7, 32, 7, 32), 14)
SIXTY_ONE = voices((7, 14, 7, 35, 7, 35), 14)


class Voicings(Case):
    def test_a_triad_in_close_ranges(self):
        expected = told_voicings("c3 e3 g3", "c3 g3 e4", "e3 e3 g3", "e3 g3 g3", "e3 g3 c4", "e3 g3 e4", "g3 g3 e4")
        self.answers_last(expected, voices((21, 25, 23, 25, 25, 30), 7), bass("c2 3 5"), voicings(0))

    def test_of_chord_k(self):
        told = [voices((21, 21, 23, 24, 25, 26), 7), bass("c2 3 5", "c2 4 6", "c2 3 5")]
        for k, expected in enumerate(("c3 e3 g3", "c3 f3 a3", "c3 e3 g3")):
            self.answers_last(told_voicings(expected), *told, voicings(k))

    def test_there_is_no_such_chord(self):
        for k in (2, 3, 8, HUGE):
            self.refused(-2, bass("c2 3 5", "d2 3 5"), voicings(k))
        self.refused(-2, voicings(0))

    def test_a_chord_without_a_voicing(self):
        self.answers_last([0], bass("c6 3 5"), voicings(0))
        self.answers_last([0], voices((22, 22, 23, 23, 25, 25), 7), bass("c2 3 5"), voicings(0))

    def test_more_than_60(self):
        self.assertEqual(last(SIXTY, bass("c1 3 5"), voicings(0))[0], 60)
        self.assertEqual(len(last(SIXTY, bass("c1 3 5"), voicings(0))), 1 + 60 * 7)
        self.refused(-8, SIXTY_ONE, bass("c1 3 5"), voicings(0))
        self.refused(-8, voices((0, 48, 0, 48, 0, 48), 14), bass("c0 3 5"), voicings(0))

    def test_too_many_of_another_chord(self):
        told = [SIXTY_ONE, bass("c1 3 5", "c1 3:1 5:1 7:1"), voicings(1)]
        self.assertGreater(last(*told)[0], 0)

    def test_absent_comes_ahead_of_too_many(self):
        self.answers_last([-2], SIXTY_ONE, bass("c1 3 5"), voicings(1))

    def test_nothing_else_is_changed(self):
        told = [bass("c2 3 5", "d2 3 6")]
        self.assertEqual(ask(*told, voicings(0), voicings(0), ways()),
                         ask(*told, voicings(0), ways())[:2] + ask(*told, voicings(0), ways())[1:])

    def test_in_order_by_tenor_alto_soprano(self):
        found = last(bass("c2 3 5"), voicings(0))
        rows = [found[at + 1:at + 7] for at in range(1, len(found), 7)]
        steps = [row[::2] for row in rows]
        self.assertGreater(len(steps), 10)
        self.assertEqual(steps, sorted(steps))
        self.assertEqual(len(steps), len({tuple(row) for row in steps}))


class Conditions(Case):
    """Each condition by itself: three ranges of one step each, so there is just one voicing or none."""

    def only(self, is_one, chord, names, apart=14, key_letters=(1,) * 7):
        steps = []
        for name in names.split():
            step = "cdefgab".index(name[0]) + 7 * int(name[-1])
            steps += [step, step]
        expected = told_voicings(names) if is_one else [0]
        self.answers_last(expected, key(*key_letters), voices(steps, apart), bass(chord), voicings(0))

    def test_each_is_a_tone(self):
        self.only(True, "c2 3 5", "c3 e3 g3")
        self.only(False, "c2 3 5", "d3 e3 g3")
        self.only(False, "c2 3 5", "e3 f3 g3")
        self.only(False, "c2 3 5", "e3 g3 b3")

    def test_each_is_raised_as_its_tone(self):
        self.only(True, "c#2 b3 ##5", "c#3 eb3 g##3")
        self.only(True, "c2 3 #5", "c3 e#3 g#3", key_letters=(0, 0, 2, 0, 1, 0, 0))
        self.only(True, "cbb2 bb3 #5", "cbb3 ebb3 g##3", key_letters=(2, 1, 1, 1, 2, 1, 1))

    def test_a_figure_is_counted_from_the_bass(self):
        for number, name in ((2, "d3"), (3, "e3"), (4, "f3"), (5, "g3"), (6, "a3"), (7, "b3"), (9, "d3")):
            self.only(True, f"c2 {number}", f"c3 {name} {name}")

    def test_the_bass_is_not_higher_than_the_tenor(self):
        self.only(True, "c3 3 5", "c3 e3 g3")
        self.only(False, "c4 3 5", "c3 e3 g3")
        self.only(False, "c4 3 5", "g3 c4 e4")
        # b raised by one is as high as the c above it; raised by two it is higher.
        self.only(True, "b#2 2 4", "c3 e3 c4")
        self.only(False, "b##2 2 4", "c3 e3 c4")
        self.only(True, "b##2 #2 4", "c#3 e3 c#4")
        self.only(False, "b#2 b2 4", "cb3 e3 cb4")

    def test_the_tenor_is_not_higher_than_the_alto(self):
        self.only(True, "c2 3 5", "e3 e3 g3")
        self.only(False, "c2 3 5", "g3 e3 g3")
        self.only(True, "c1 #3 4", "e#2 f2 f2")
        self.only(True, "c1 #3 4", "f2 e#2 f2")
        self.only(False, "c1 3 4", "f2 e2 f2")
        self.only(True, "c1 ##3 4", "f2 e##2 e##2")
        self.only(False, "c1 ##3 4", "e##2 f2 f2")

    def test_the_alto_is_not_higher_than_the_soprano(self):
        self.only(True, "c2 3 5", "e3 g3 g3")
        self.only(False, "c2 3 5", "c3 g3 e3")
        self.only(True, "c1 #3 4", "c2 f2 e#2")
        self.only(False, "c1 3 4", "c2 f2 e2")
        self.only(False, "c1 ##3 4", "c2 e##2 f2")

    def test_apart(self):
        for apart in (0, 1, 6, 7, 13, 14):
            self.only(apart >= 7, "c1 3", "e2 e3 e3", apart)
            self.only(apart >= 7, "c1 3", "e2 e2 e3", apart)
            self.only(apart >= 14, "c1 3", "e2 e4 e4", apart)
            self.only(apart >= 14, "c1 3", "e2 e2 e4", apart)
            self.only(True, "c1 3", "e2 e2 e2", apart)
        self.only(False, "c1 3", "e2 c5 c5")
        self.only(False, "c1 3", "e2 e2 c5")

    def test_apart_is_not_asked_of_bass_and_tenor(self):
        self.only(True, "c0 3", "e6 e6 e6", 0)

    def test_apart_counts_steps_not_half_tones(self):
        self.only(True, "c1 ##3 b5", "c2 e##2 gb2", 2)
        self.only(False, "c1 bb4", "c2 fbb2 fbb2", 2)

    def test_each_figures_tone_is_there(self):
        self.only(False, "c2 3 5", "c3 e3 e3")
        self.only(False, "c2 3 5", "c3 g3 g3")
        self.only(False, "c2 3 5", "c3 c3 c3")
        self.only(False, "c2 3 5 7", "c3 e3 g3")
        self.only(True, "c2 3 5 7", "e3 g3 b3")
        self.only(True, "c2 3 5 7", "g3 b3 e4")

    def test_of_sort_0_as_often_as_one_likes(self):
        self.only(True, "c2 3", "e3 e3 e3")
        self.only(True, "c2 3 5", "e3 e3 g3")
        self.only(True, "c2 3 5", "e3 g3 g3")

    def test_of_another_sort_just_once(self):
        for sort in (1, 2, 3):
            self.only(True, f"c2 3:{sort} 5", "c3 e3 g3")
            self.only(True, f"c2 3:{sort} 5", "e3 g3 g3")
            self.only(False, f"c2 3:{sort} 5", "e3 e3 g3")
            self.only(False, f"c2 3 5:{sort}", "e3 g3 g3")
            self.only(False, f"c2 3:{sort} 5", "e3 g3 e4")
            self.only(False, f"c2 3:{sort}", "e3 e3 e3")
            self.only(False, f"c2 3:{sort} 5", "c3 g3 g3")

    def test_the_basss_tone_as_often_as_one_likes_or_not(self):
        self.only(True, "c2", "c3 c3 c3")
        self.only(True, "c2 3:1", "c3 c3 e3")
        self.only(True, "c2 3 5", "c3 e3 g3")
        self.only(True, "c2 3 5", "e3 g3 e4")


class Ranges(Case):
    def test_both_ends_are_in_it(self):
        self.answers_last(told_voicings("c3 c5 c5", "c4 c5 c5"), voices((21, 28, 35, 35, 35, 35), 14),
                          bass("c2"), voicings(0))
        self.answers_last(told_voicings("c3 c3 c3", "c3 c3 c4", "c3 c4 c4"), voices((21, 21, 21, 28, 21, 28), 14),
                          bass("c2"), voicings(0))
        self.answers_last([0], voices((22, 27, 21, 28, 21, 28), 14), bass("c2"), voicings(0))

    def test_the_lowest_and_the_highest_steps(self):
        self.answers_last(told_voicings("c0 c0 c0"), voices((0, 0, 0, 0, 0, 0), 0), bass("c0"), voicings(0))
        self.answers_last(told_voicings("b6 b6 b6"), voices((48, 48, 48, 48, 48, 48), 0), bass("b6"), voicings(0))


if __name__ == "__main__":
    unittest.main()
