"""Rows: how notes, chords and voicings are written as whole numbers."""

# How much a note is raised, and a mark, is written with this added, so that it is never below 0.
SHIFT = 2


class Reader:
    """Reads what is told with one call, number by number, out of the list of all calls."""

    def __init__(self, numbers, place):
        self.numbers = numbers
        self.place = place

    def read_number(self):
        """The next number."""
        number = self.numbers[self.place]
        self.place += 1
        return number

    def read_row(self):
        """The next numbers, behind how many they are."""
        count = self.read_number()
        return [self.read_number() for turn in range(count)]

    def read_note(self):
        """A note: its step and how much it is raised."""
        step = self.read_number()
        return (step, self.read_number() - SHIFT)

    def read_notes(self):
        """Notes, behind how many they are."""
        count = self.read_number()
        return [self.read_note() for turn in range(count)]

    def read_figure(self):
        """A figure: its number, its mark and its kind."""
        number = self.read_number()
        mark = self.read_number() - SHIFT
        return (number, mark, self.read_number())

    def read_chord(self):
        """A chord as it is told: its bass, and its figures behind how many they are."""
        bass = self.read_note()
        count = self.read_number()
        return (bass, [self.read_figure() for turn in range(count)])

    def read_chords(self):
        """Chords, behind how many they are."""
        count = self.read_number()
        return [self.read_chord() for turn in range(count)]

    def read_voicings(self):
        """Voicings as they are told, each of any number of notes, behind how many they are."""
        count = self.read_number()
        return [tuple(self.read_notes()) for turn in range(count)]


def voicing_row(voicing):
    """A voicing's numbers, behind how many they are."""
    row = [2 * len(voicing)]
    for note in voicing:
        row.append(note[0])
        row.append(note[1] + SHIFT)
    return row
