"""Promise 5: bass, and what a chord is."""

import unittest

from tests.helper import (Case, ask, bass, begins, best, key, last, raw_bass, told_voicings, voices, voicings, ways)

HUGE = 4294967295


class Bass(Case):
    def test_answers_how_many(self):
        for count in range(9):
            self.answers_last([count], bass(*["c2 3 5"] * count))

    def test_more_than_8(self):
        for count in (9, 10, 60):
            self.refused(-1, bass("d2 3 5"), bass(*["c2 3 5"] * count))

    def test_takes_the_place_of_the_chords_before(self):
        told = [bass("c2 3 5", "f2 3 5"), ways(), best(), bass("d2 3 6")]
        for question in (voicings(0), voicings(1), ways(), best()):
            self.assertEqual(last(*told, question), last(bass("d2 3 6"), question))
        self.answers_last([0, 2, 1, 1], *told, bass(), ways())

    def test_leaves_the_settings(self):
        told = voices((21, 21, 23, 23, 25, 25), 7)
        self.answers_last(told_voicings("c3 e3 g3"), told, bass("d2 3 6"), bass("c2 3 5"), voicings(0))


class Chords(Case):
    def is_chord(self, *chord):
        self.answers_last([1], raw_bass(chord))

    def is_none(self, *chord):
        """Whether it is refused alone, ahead of and behind others."""
        plain = (14, 0, [(3, 0, 0), (5, 0, 0)])
        self.refused(-1, bass("d2 3 5", "c2 3 6"), raw_bass(chord))
        self.refused(-1, bass("d2 3 5", "c2 3 6"), raw_bass(chord, plain))
        self.refused(-1, bass("d2 3 5", "c2 3 6"), raw_bass(plain, plain, chord))

    def test_the_basss_step(self):
        self.is_chord(0, 0, [])
        self.is_chord(48, 0, [(3, 0, 0)])
        self.is_none(49, 0, [])
        self.is_none(HUGE, 0, [(3, 0, 0)])

    def test_the_basss_raising(self):
        for raised in range(-2, 3):
            self.is_chord(14, raised, [(3, 0, 0), (5, 0, 0)])

    def test_how_many_figures(self):
        figures = [(2, 0, 0), (3, 0, 1), (4, 0, 2), (5, 0, 3)]
        for count in range(4):
            self.is_chord(14, 0, figures[:count])
        self.is_none(14, 0, figures)
        self.is_none(14, 0, figures + [(6, 0, 0)])

    def test_the_most_figures_that_can_be_told(self):
        self.is_none(14, 0, [(3, 0, 0)] * 60)

    def test_a_figures_number(self):
        for number in (2, 3, 4, 5, 6, 7, 9):
            self.is_chord(14, 0, [(number, 0, 0)])
        for number in (0, 1, 10, 11, 12, HUGE):
            self.is_none(14, 0, [(number, 0, 0)])

    def test_an_eighth_has_the_basss_letter(self):
        self.is_none(14, 0, [(8, 0, 0)])
        self.is_none(14, 0, [(8, 1, 0)])
        self.is_none(14, 0, [(5, 0, 0), (8, 0, 0)])

    def test_figures_of_one_letter(self):
        self.is_none(14, 0, [(3, 0, 0), (3, 0, 0)])
        self.is_none(14, 0, [(3, 0, 0), (3, -1, 0)])
        self.is_none(14, 0, [(2, 0, 0), (9, 0, 0)])
        self.is_none(14, 0, [(9, 0, 0), (5, 0, 0), (2, 1, 1)])

    def test_a_figures_sort(self):
        for sort in range(4):
            self.is_chord(14, 0, [(3, 0, sort)])
        for sort in (4, HUGE):
            self.is_none(14, 0, [(3, 0, sort)])

    def test_a_figures_mark_and_the_key(self):
        for letter in (0, 1, 2):
            for mark in range(-2, 3):
                calls = [key(1, 1, letter, 1, 1, 1, 1), raw_bass((14, 0, [(3, mark, 0)]))]
                self.answers_last([1] if abs(letter - 1 + mark) <= 2 else [-1], *calls)

    def test_only_the_keys_own_letter_counts(self):
        self.answers_last([1], key(2, 2, 1, 2, 2, 2, 2), raw_bass((14, 2, [(3, 2, 0)])))
        self.answers_last([-1], key(1, 1, 1, 1, 1, 1, 2), raw_bass((15, 0, [(6, 2, 0)])))

    def test_it_is_one_in_this_key(self):
        refused = bass("c2 ##3")
        self.assertEqual(ask(key(1, 1, 2, 1, 1, 1, 1), refused, begins(), refused), [[0], [-1], [0], [1]])

    def test_the_basss_letter_wraps(self):
        # Above b (step 20) the third is d, the next octave's.
        self.answers_last(told_voicings("d3 d3 f3"), voices((22, 22, 22, 22, 24, 24), 7), bass("b2 3 5"), voicings(0))


if __name__ == "__main__":
    unittest.main()
