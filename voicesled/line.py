"""A line: one bass, what is told about it, and what its calls answer, each a list of whole numbers."""

from voicesled.chords import chord_in
from voicesled.faults import Sounding, faults_between
from voicesled.notes import GREATEST_STEP
from voicesled.rows import voicing_row
from voicesled.voicings import MOST_VOICINGS, Reach, is_voicing, voicings_of
from voicesled.ways import Terms, all_ways, first_cheapest

NOT_ALLOWED = -1
NO_CHORD = -2
NO_VOICING = -3
NO_WAY = -6
TOO_MANY = -8

LETTERS = 7
GREATEST_LETTER = 2
# A letter of the key is told with this added, so that it is never below 0.
LETTER_SHIFT = 1
STEPS = 6
GREATEST_APART = 14
RULES = 7
GREATEST_COST = 1000
GREATEST_MOVE = 100
GREATEST_LEAP = 48
MOST_CHORDS = 8
VOICES = 3


class Line:
    """What is told of a bass so far."""

    def __init__(self):
        self.begin()

    def begin(self):
        """All is as at a line's beginning."""
        self.letters = (0, 0, 0, 0, 0, 0, 0)
        self.reach = Reach(((21, 31), (24, 36), (28, 39)), 7)
        self.terms = Terms((1000, 1000, 1000, 1000, 1000, 1000, 1000), 1, 7)
        self.chords = []
        self.known_ways = None
        return [0]

    def set_key(self, letters):
        """How much each letter is raised; the chords are gone then."""
        if len(letters) != LETTERS or max(letters) > GREATEST_LETTER:
            return [NOT_ALLOWED]
        self.letters = tuple([letter - LETTER_SHIFT for letter in letters])
        self.chords = []
        self.known_ways = None
        return [0]

    def set_voices(self, steps, apart):
        """The voices' ranges, from and to, and how many steps two may be apart."""
        if len(steps) != STEPS or max(steps) > GREATEST_STEP or apart > GREATEST_APART:
            return [NOT_ALLOWED]
        ranges = ((steps[0], steps[1]), (steps[2], steps[3]), (steps[4], steps[5]))
        for bounds in ranges:
            if bounds[0] > bounds[1]:
                return [NOT_ALLOWED]
        self.reach = Reach(ranges, apart)
        self.known_ways = None
        return [0]

    def set_rules(self, costs, move, leap):
        """What the rules cost, what a half tone costs, and beyond how many steps a voice leaps."""
        if len(costs) != RULES or max(costs) > GREATEST_COST:
            return [NOT_ALLOWED]
        if move > GREATEST_MOVE or leap > GREATEST_LEAP:
            return [NOT_ALLOWED]
        self.terms = Terms(tuple(costs), move, leap)
        self.known_ways = None
        return [0]

    def set_bass(self, told):
        """The chords, each told as its bass and its figures."""
        if len(told) > MOST_CHORDS:
            return [NOT_ALLOWED]
        chords = [chord_in(self.letters, bass, figures) for bass, figures in told]
        if None in chords:
            return [NOT_ALLOWED]
        self.chords = chords
        self.known_ways = None
        return [len(chords)]

    def tell_voicings(self, place):
        """The voicings of a chord."""
        if place >= len(self.chords):
            return [NO_CHORD]
        found = voicings_of(self.chords[place], self.reach)
        if len(found) > MOST_VOICINGS:
            return [TOO_MANY]
        answer = [len(found)]
        for voicing in found:
            answer.extend(voicing_row(voicing))
        return answer

    def find_ways(self):
        """All ways through the bass as a rest, or None if a chord has too many voicings.

        They are kept until something else is told: to find them takes by far the longest.
        """
        if self.known_ways is None:
            soundings = []
            for chord in self.chords:
                found = voicings_of(chord, self.reach)
                if len(found) > MOST_VOICINGS:
                    return None
                soundings.append([Sounding(chord, voicing) for voicing in found])
            self.known_ways = all_ways(soundings, self.terms)
        return self.known_ways

    def tell_ways(self):
        """How many ways there are, and how many of them cost the least."""
        whole = self.find_ways()
        if whole is None:
            return [TOO_MANY]
        return [0, 2, whole.total, whole.cheapest]

    def tell_best(self):
        """The least that a way costs, and the first way that costs so."""
        whole = self.find_ways()
        if whole is None:
            return [TOO_MANY]
        if whole.total == 0:
            return [NO_WAY]
        answer = [whole.least]
        for voicing in first_cheapest(whole):
            answer.extend(voicing_row(voicing))
        return answer

    def tell_faults(self, told):
        """All faults of a way that somebody wrote down, a voicing for each chord."""
        if len(told) != len(self.chords):
            return [NOT_ALLOWED]
        for voicing in told:
            if len(voicing) != VOICES or max([note[0] for note in voicing]) > GREATEST_STEP:
                return [NOT_ALLOWED]
        for place, chord in enumerate(self.chords):
            if not is_voicing(chord, self.reach, told[place]):
                return [NO_VOICING, 1, place]
        return self.faults_row(told)

    def faults_row(self, voicings):
        """How many faults these voicings of the chords have, then each, behind how many numbers it has."""
        soundings = [Sounding(chord, voicing) for chord, voicing in zip(self.chords, voicings)]
        rows = []
        for place in range(1, len(soundings)):
            for fault in faults_between(soundings[place - 1], soundings[place], self.terms.leap):
                rows.append([4, place - 1, fault[0], fault[1], fault[2]])
        answer = [len(rows)]
        for row in rows:
            answer.extend(row)
        return answer
