"""Notes: a note is a tuple of its step and by how many half tones it is raised."""

STEPS_IN_OCTAVE = 7
HALF_TONES_IN_OCTAVE = 12
HALF_TONES = (0, 2, 4, 5, 7, 9, 11)
GREATEST_STEP = 48
MOST_RAISED = 2


def letter_of(step):
    """The letter of a step, 0 (c) to 6 (b)."""
    return step % STEPS_IN_OCTAVE


def width_of(steps):
    """How many half tones that many steps span, counted upwards from c."""
    return HALF_TONES_IN_OCTAVE * (steps // STEPS_IN_OCTAVE) + HALF_TONES[letter_of(steps)]


def height_of(note):
    """How high a note is, in half tones."""
    return width_of(note[0]) + note[1]
