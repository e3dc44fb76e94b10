"""The program against the document's words done in the plainest way, on many lines drawn from fixed seeds."""

import itertools
import random
import unittest

from tests.helper import ask, begins, best, key, raw_bass, raw_faults, rules, voices, voicings, ways

HALF_TONES = (0, 2, 4, 5, 7, 9, 11)
MARKS = (0, 0, 0, 0, 0, 0, 0, -1, 1, 2, -2)
REFUSALS = {"wrong": [-1], "absent": [-2], "no way": [-6], "too many": [-8]}


def high(note):
    return 12 * (note[0] // 7) + HALF_TONES[note[0] % 7] + note[1]


def octaves_aside(low, top):
    return ((top[0] - low[0]) % 7, (high(top) - high(low)) % 12)


class Plain:
    """A line, done by going through everything there is."""

    def __init__(self):
        self.begins()

    def begins(self):
        self.key = [0] * 7
        self.ranges = [(21, 31), (24, 36), (28, 39)]
        self.apart = 7
        self.costs = [1000] * 7
        self.move = 1
        self.leap = 7
        self.chords = []
        return [0]

    def set_key(self, letters):
        if len(letters) != 7 or [letter for letter in letters if letter not in (0, 1, 2)]:
            return REFUSALS["wrong"]
        self.key = [letter - 1 for letter in letters]
        self.chords = []
        return [0]

    def set_voices(self, steps, apart):
        if len(steps) != 6 or max(steps) > 48 or apart > 14:
            return REFUSALS["wrong"]
        ranges = list(zip(steps[::2], steps[1::2]))
        if any(low > top for low, top in ranges):
            return REFUSALS["wrong"]
        self.ranges = ranges
        self.apart = apart
        return [0]

    def set_rules(self, costs, move, leap):
        if len(costs) != 7 or max(costs) > 1000 or move > 100 or leap > 48:
            return REFUSALS["wrong"]
        self.costs = costs
        self.move = move
        self.leap = leap
        return [0]

    def tones(self, chord):
        """The tones of a chord as (letter, raised, sort), the bass's first; None if it isn't a chord."""
        step, raised, figures = chord
        tones = [(step % 7, raised, 0)]
        if step > 48 or len(figures) > 3:
            return None
        for number, mark, sort in figures:
            if number not in range(2, 10) or sort not in range(4):
                return None
            letter = (step + number - 1) % 7
            tones.append((letter, self.key[letter] + mark, sort))
        if len({tone[0] for tone in tones}) < len(tones):
            return None
        if any(tone[1] not in range(-2, 3) for tone in tones):
            return None
        return tones

    def set_bass(self, chords):
        if len(chords) > 8 or any(self.tones(chord) is None for chord in chords):
            return REFUSALS["wrong"]
        self.chords = chords
        return [len(chords)]

    def is_voicing(self, chord, three):
        tones = self.tones(chord)
        names = [(note[0] % 7, note[1]) for note in three]
        if any(name not in [tone[:2] for tone in tones] for name in names):
            return False
        if any(note[0] not in range(low, top + 1) for note, (low, top) in zip(three, self.ranges)):
            return False
        heights = [high(chord[:2])] + [high(note) for note in three]
        if heights != sorted(heights):
            return False
        if three[1][0] - three[0][0] > self.apart or three[2][0] - three[1][0] > self.apart:
            return False
        for letter, raised, sort in tones[1:]:
            times = names.count((letter, raised))
            if times < 1 or (sort > 0 and times != 1):
                return False
        return True

    def all_voicings(self, chord):
        raised_of = {tone[0]: tone[1] for tone in self.tones(chord)}
        choices = []
        for low, top in self.ranges:
            choices.append([(s, raised_of[s % 7]) for s in range(low, top + 1) if s % 7 in raised_of])
        return [three for three in itertools.product(*choices) if self.is_voicing(chord, three)]

    def faults_of(self, before, after):
        """The faults from one (chord, three notes) to the next."""
        old = [before[0][:2]] + list(before[1])
        new = [after[0][:2]] + list(after[1])
        found = []
        for rule, wanted in ((1, (4, 7)), (2, (0, 0))):
            for a, b in itertools.combinations(range(4), 2):
                alike = octaves_aside(old[a], old[b]) == wanted == octaves_aside(new[a], new[b])
                if alike and old[a] != new[a] and old[b] != new[b]:
                    found.append((rule, a, b))
        up = high(new[0]) > high(old[0]) and high(new[3]) > high(old[3])
        down = high(new[0]) < high(old[0]) and high(new[3]) < high(old[3])
        perfect = octaves_aside(new[0], new[3]) in ((4, 7), (0, 0))
        if (up or down) and perfect and abs(new[3][0] - old[3][0]) > 1:
            found.append((3, 0, 3))
        for voice in (1, 2, 3):
            low, top = (old[voice], new[voice]) if new[voice][0] >= old[voice][0] else (new[voice], old[voice])
            octaves, more = divmod(top[0] - low[0], 7)
            if high(top) - high(low) > 12 * octaves + HALF_TONES[more]:
                found.append((4, voice, voice))
        for voice in (1, 2, 3):
            if abs(new[voice][0] - old[voice][0]) > self.leap:
                found.append((5, voice, voice))
        for a in (0, 1, 2):
            if high(new[a]) > high(old[a + 1]) or high(new[a + 1]) < high(old[a]):
                found.append((6, a, a + 1))
        sorts = {tone[0]: tone[2] for tone in self.tones(before[0])}
        for voice in (1, 2, 3):
            due = {2: old[voice][0] - 1, 3: old[voice][0] + 1}.get(sorts[old[voice][0] % 7])
            if due is not None and new[voice] != old[voice] and new[voice][0] != due:
                found.append((7, voice, voice))
        return found

    def cost_of(self, way):
        """What a way costs, or None if it isn't one."""
        cost = 0
        for k in range(len(way) - 1):
            for old, new in zip(way[k], way[k + 1]):
                cost += self.move * abs(high(new) - high(old))
            for rule, _, _ in self.faults_of((self.chords[k], way[k]), (self.chords[k + 1], way[k + 1])):
                if self.costs[rule - 1] == 1000:
                    return None
                cost += self.costs[rule - 1]
        return cost

    def all_ways(self):
        """All ways in order with their costs, or None if a chord has too many voicings."""
        choices = [self.all_voicings(chord) for chord in self.chords]
        if any(len(choice) > 60 for choice in choices):
            return None
        found = [(self.cost_of(way), way) for way in itertools.product(*choices)]
        return [pair for pair in found if pair[0] is not None]

    def tell_voicings(self, k):
        if k >= len(self.chords):
            return REFUSALS["absent"]
        found = self.all_voicings(self.chords[k])
        if len(found) > 60:
            return REFUSALS["too many"]
        return [len(found)] + [number for three in found for number in row_of(three)]

    def tell_ways(self):
        found = self.all_ways()
        if found is None:
            return REFUSALS["too many"]
        costs = [cost for cost, _ in found]
        return [0, 2, len(costs), costs.count(min(costs, default=0))]

    def tell_best(self):
        found = self.all_ways()
        if found is None:
            return REFUSALS["too many"]
        if not found:
            return REFUSALS["no way"]
        cost, way = min(found, key=lambda pair: pair[0])
        return [cost] + [number for three in way for number in row_of(three)]

    def tell_faults(self, told):
        if len(told) != len(self.chords) or any(len(three) != 3 for three in told):
            return REFUSALS["wrong"]
        if any(note[0] > 48 for three in told for note in three):
            return REFUSALS["wrong"]
        for k, three in enumerate(told):
            if not self.is_voicing(self.chords[k], three):
                return [-3, 1, k]
        found = []
        for k in range(len(told) - 1):
            for rule, a, b in self.faults_of((self.chords[k], told[k]), (self.chords[k + 1], told[k + 1])):
                found.append([4, k, rule, a, b])
        return [len(found)] + [number for row in found for number in row]


def row_of(three):
    return [6] + [number for step, raised in three for number in (step, raised + 2)]


class Draw:
    """Draws calls: each comes as the call and what the plain line answers to it."""

    def __init__(self, seed):
        self.dice = random.Random(seed)
        self.plain = Plain()

    def chance(self, percent):
        return self.dice.randrange(100) < percent

    def key(self):
        letters = [self.dice.choice((0, 1, 1, 1, 2)) for _ in range(6 if self.chance(5) else 7)]
        if self.chance(5):
            letters[self.dice.randrange(len(letters))] = self.dice.choice((3, 4294967295))
        return key(*letters), self.plain.set_key(letters)

    def voices(self):
        steps = []
        low = self.dice.randrange(14, 20)
        for _ in range(3):
            steps += [low, low + self.dice.randrange(4, 12)]
            low += self.dice.randrange(1, 6)
        if self.chance(5):
            steps[self.dice.randrange(6)] = self.dice.choice((0, 48, 49, 4294967295))
        apart = self.dice.choice((2, 3, 5, 7, 7, 9, 14, 15))
        return voices(steps, apart), self.plain.set_voices(steps, apart)

    def rules(self):
        costs = [self.dice.choice((0, 1, 2, 5, 17, 999, 1000)) for _ in range(7)]
        if self.chance(4):
            costs[self.dice.randrange(7)] = 1001
        move = self.dice.choice((0, 1, 1, 2, 100))
        leap = self.dice.choice((0, 1, 2, 3, 4, 7))
        return rules(costs, move, leap), self.plain.set_rules(costs, move, leap)

    def figures(self):
        numbers = self.dice.choice(((3, 5), (3, 6), (3, 5, 7), (2, 4, 6), (5,), (3,), (4, 5), (), (9, 5, 3)))
        if self.chance(4):
            numbers = (3, self.dice.choice((1, 3, 8, 10)))
        return [(number, self.dice.choice(MARKS), self.dice.choice((0, 0, 0, 1, 2, 3)))
                for number in numbers]

    def bass(self):
        chords = []
        for _ in range(self.dice.choice((0, 1, 2, 2, 2, 2, 3))):
            chords.append((self.dice.randrange(7, 19), self.dice.choice((0, 0, 0, 0, -1, 1)), self.figures()))
        return raw_bass(*chords), self.plain.set_bass(chords)

    def voicings(self):
        k = self.dice.randrange(4)
        return voicings(k), self.plain.tell_voicings(k)

    def ways(self):
        return ways(), self.plain.tell_ways()

    def best(self):
        return best(), self.plain.tell_best()

    def faults(self):
        told = []
        for chord in self.plain.chords:
            choice = self.plain.all_voicings(chord)
            told.append(list(self.dice.choice(choice)) if choice else [(20, 0), (22, 0), (24, 0)])
        if told and self.chance(8):
            told[self.dice.randrange(len(told))][self.dice.randrange(3)] = (self.dice.choice((20, 48, 49)), 0)
        return raw_faults(told), self.plain.tell_faults(told)

    def line(self):
        calls = [self.voices(), self.bass()]
        for _ in range(14):
            sort = self.dice.choice((self.rules, self.bass, self.bass, self.voicings, self.faults, self.faults,
                                     self.voices, self.ways, self.best, self.best))
            calls.append(sort())
        for _ in range(2):
            place = self.dice.choice((self.key, self.begun))()
            calls += [place, self.voices(), self.bass(), self.rules(), self.ways(), self.best(), self.faults()]
        return calls

    def begun(self):
        return begins(), self.plain.begins()


class AgainstPlain(unittest.TestCase):
    def test_many_lines(self):
        for seed in range(300):
            calls = Draw(seed).line()
            found = ask(*[numbers for numbers, _ in calls])
            with self.subTest(seed=seed):
                self.assertEqual(found, [answer for _, answer in calls])


if __name__ == "__main__":
    unittest.main()
