"""Voicings: a voicing is a tuple of three notes, for tenor, alto and soprano."""

from voicesled.chords import FREE
from voicesled.notes import height_of, letter_of

MOST_VOICINGS = 60


class Reach:
    """Where the voices may be: a range of steps for each, and how many steps two may be apart."""

    def __init__(self, ranges, apart):
        self.ranges = ranges
        self.apart = apart


def tones_within(chord, bounds):
    """The notes from one step to another that are tones of the chord, in order."""
    notes = []
    for step in range(bounds[0], bounds[1] + 1):
        letter = letter_of(step)
        if letter in chord.raised:
            notes.append((step, chord.raised[letter]))
    return notes


def stands_on(lower, upper, apart):
    """Whether a voice may have the note upper when the one just below it has lower."""
    return height_of(lower) <= height_of(upper) and upper[0] - lower[0] <= apart


def has_figures(chord, voicing):
    """Whether each figure's tone is there as often as its kind asks."""
    letters = [letter_of(note[0]) for note in voicing]
    for letter, kind in chord.kinds.items():
        times = letters.count(letter)
        if times == 0 or (times > 1 and kind != FREE):
            return False
    return True


def is_voicing(chord, reach, voicing):
    """Whether these three notes are a voicing of the chord."""
    for note, bounds in zip(voicing, reach.ranges):
        if note not in tones_within(chord, bounds):
            return False
    if height_of(chord.bass) > height_of(voicing[0]):
        return False
    if not stands_on(voicing[0], voicing[1], reach.apart) or not stands_on(voicing[1], voicing[2], reach.apart):
        return False
    return has_figures(chord, voicing)


def voicings_of(chord, reach):
    """The chord's voicings in order.

    More than MOST_VOICINGS end the search: of those is asked only that they are too many.
    """
    tenors = [note for note in tones_within(chord, reach.ranges[0]) if height_of(note) >= height_of(chord.bass)]
    altos = tones_within(chord, reach.ranges[1])
    sopranos = tones_within(chord, reach.ranges[2])
    found = []
    for tenor in tenors:
        for alto in [note for note in altos if stands_on(tenor, note, reach.apart)]:
            for soprano in [note for note in sopranos if stands_on(alto, note, reach.apart)]:
                if has_figures(chord, (tenor, alto, soprano)):
                    found.append((tenor, alto, soprano))
            if len(found) > MOST_VOICINGS:
                return found
    return found
