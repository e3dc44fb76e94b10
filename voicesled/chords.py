"""Chords: a bass and the tones that its figures ask for."""

from voicesled.notes import GREATEST_STEP, MOST_RAISED, letter_of

MOST_FIGURES = 3
LEAST_NUMBER = 2
GREATEST_NUMBER = 9

# What the document calls a figure's sort is its kind here.
GREATEST_KIND = 3
FREE = 0
FALLING = 2
RISING = 3


class Chord:
    """A chord: its bass, how much the letter of each tone is raised, and the kind of each figure's letter.

    The bass's own letter has no kind here: unlike a figure's it may be left out of a voicing.
    """

    def __init__(self, bass, raised, kinds):
        self.bass = bass
        self.raised = raised
        self.kinds = kinds


def is_figure(figure):
    """Whether a figure's number, mark and kind are in their bounds."""
    number_fits = LEAST_NUMBER <= figure[0] <= GREATEST_NUMBER
    return number_fits and abs(figure[1]) <= MOST_RAISED and figure[2] <= GREATEST_KIND


def chord_in(letters, bass, figures):
    """The chord of a bass and figures (number, mark, kind) in the key of these letters, or None if it is none."""
    if bass[0] > GREATEST_STEP or abs(bass[1]) > MOST_RAISED or len(figures) > MOST_FIGURES:
        return None
    raised = {letter_of(bass[0]): bass[1]}
    kinds = {}
    for figure in figures:
        if not is_figure(figure):
            return None
        letter = letter_of(bass[0] + figure[0] - 1)
        by = letters[letter] + figure[1]
        if letter in raised or abs(by) > MOST_RAISED:
            return None
        raised[letter] = by
        kinds[letter] = figure[2]
    return Chord(bass, raised, kinds)


def kind_of(chord, note):
    """The kind of the tone that a note of the chord is; the bass's own tone is free."""
    return chord.kinds.get(letter_of(note[0]), FREE)
