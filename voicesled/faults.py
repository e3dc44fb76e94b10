"""Faults: what is wrong from one chord to the next. A fault is a tuple of its rule and two voices."""

from voicesled.chords import FALLING, RISING, kind_of
from voicesled.notes import HALF_TONES_IN_OCTAVE, STEPS_IN_OCTAVE, height_of, width_of

BASS = 0
SOPRANO = 3
ALL_VOICES = (0, 1, 2, 3)
UPPER_VOICES = (1, 2, 3)
PAIRS = ((0, 1), (0, 2), (0, 3), (1, 2), (1, 3), (2, 3))
NEIGHBOURS = ((0, 1), (1, 2), (2, 3))

STEPS_IN_FIFTH = 4

FIFTHS = 1
OCTAVES = 2
HIDDEN = 3
TOO_WIDE = 4
LEAP = 5
OVERLAP = 6
WRONG_WAY = 7


class Sounding:
    """A chord in a voicing, with its bass, and what the rules ask of that.

    Each voicing is compared with many, so this is worked out once.
    """

    def __init__(self, chord, voicing):
        self.voicing = voicing
        self.notes = (chord.bass,) + voicing
        self.heights = [height_of(note) for note in self.notes]
        self.kinds = [kind_of(chord, note) for note in self.notes]
        self.fifths = [pair for pair in PAIRS if are_apart(self.notes, pair, STEPS_IN_FIFTH)]
        self.octaves = [pair for pair in PAIRS if are_apart(self.notes, pair, 0)]


def are_apart(notes, pair, steps):
    """Whether a pair's upper voice is so many steps above the lower one, and as wide as from c, octaves aside."""
    lower = notes[pair[0]]
    upper = notes[pair[1]]
    if (upper[0] - lower[0]) % STEPS_IN_OCTAVE != steps:
        return False
    return (height_of(upper) - height_of(lower)) % HALF_TONES_IN_OCTAVE == width_of(steps)


def side_by_side(old_pairs, new_pairs, moving):
    """The pairs that are in both lists, and of which both voices move."""
    return [pair for pair in old_pairs if pair in new_pairs and moving[pair[0]] and moving[pair[1]]]


def is_hidden(before, after):
    """Whether bass and soprano go one way to a fifth or an octave, the soprano not by step."""
    if (BASS, SOPRANO) not in after.fifths and (BASS, SOPRANO) not in after.octaves:
        return False
    bass_rise = after.heights[BASS] - before.heights[BASS]
    soprano_rise = after.heights[SOPRANO] - before.heights[SOPRANO]
    return bass_rise * soprano_rise > 0 and abs(after.notes[SOPRANO][0] - before.notes[SOPRANO][0]) > 1


def is_too_wide(before, after, voice):
    """Whether the note of the greater step, of alike steps the new one, is too high above the other."""
    steps = after.notes[voice][0] - before.notes[voice][0]
    rise = after.heights[voice] - before.heights[voice]
    if steps >= 0:
        return rise > width_of(steps)
    return -rise > width_of(-steps)


def is_overlap(before, after, pair):
    """Whether the lower voice comes higher than the upper one was, or the upper lower than the lower one was."""
    lower_passes = after.heights[pair[0]] > before.heights[pair[1]]
    return lower_passes or after.heights[pair[1]] < before.heights[pair[0]]


def is_wrong_way(kind, old, new):
    """Whether a voice that leaves a tone of this kind doesn't go where that one leads."""
    if new == old:
        return False
    if kind == FALLING:
        return new[0] != old[0] - 1
    return kind == RISING and new[0] != old[0] + 1


def faults_between(before, after, leap):
    """All faults from one sounding to the next, in the rules' order."""
    old = before.notes
    new = after.notes
    moving = [old[voice] != new[voice] for voice in ALL_VOICES]
    found = [(FIFTHS, low, high) for low, high in side_by_side(before.fifths, after.fifths, moving)]
    found.extend([(OCTAVES, low, high) for low, high in side_by_side(before.octaves, after.octaves, moving)])
    if is_hidden(before, after):
        found.append((HIDDEN, BASS, SOPRANO))
    found.extend([(TOO_WIDE, voice, voice) for voice in UPPER_VOICES if is_too_wide(before, after, voice)])
    found.extend([(LEAP, voice, voice) for voice in UPPER_VOICES if abs(new[voice][0] - old[voice][0]) > leap])
    found.extend([(OVERLAP, pair[0], pair[1]) for pair in NEIGHBOURS if is_overlap(before, after, pair)])
    for voice in UPPER_VOICES:
        if is_wrong_way(before.kinds[voice], old[voice], new[voice]):
            found.append((WRONG_WAY, voice, voice))
    return found
