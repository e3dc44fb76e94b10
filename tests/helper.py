"""What the tests share: a short way to write notes, chords and calls, and to take answers apart.

A note is written like "c2", "f#3", "bb2": its letter, what it is raised by (# or b, once or twice),
its octave. A figure is written like "3", "#3", "b5", "7:2": its mark, its number, its sort (0 if not told).
"""

import unittest

from voicesled.desk import answers

LETTERS = "cdefgab"
WIDE = (0, 48, 0, 48, 0, 48)
NO_COST = (0, 0, 0, 0, 0, 0, 0)


def raised_by(signs):
    return signs.count("#") - signs.count("b")


def note(name):
    """A note as (step, raised)."""
    return (LETTERS.index(name[0]) + 7 * int(name[-1]), raised_by(name[1:-1]))


def notes(names):
    return [note(name) for name in names.split()]


def figure(text):
    """A figure as (number, mark, sort)."""
    head, _, sort = text.partition(":")
    number = head.lstrip("#b")
    return (int(number), raised_by(head[:len(head) - len(number)]), int(sort or 0))


def chord(text):
    """A chord as (bass, figures), written like "c2 3 5"."""
    names = text.split()
    return (note(names[0]), [figure(name) for name in names[1:]])


def call(*numbers):
    return [0, len(numbers)] + list(numbers)


def begins():
    return call(0)


def key(*letters):
    return call(1, len(letters), *letters)


def voices(steps, apart):
    return call(2, len(steps), *steps, apart)


def rules(costs, move, leap):
    return call(3, len(costs), *costs, move, leap)


def raw_bass(*chords):
    """Chords of plain numbers: (step, raised, figures of (number, mark, sort))."""
    numbers = [4, len(chords)]
    for step, raised, figures in chords:
        numbers += [step, raised + 2, len(figures)]
        for number, mark, sort in figures:
            numbers += [number, mark + 2, sort]
    return call(*numbers)


def bass(*texts):
    chords = [chord(text) for text in texts]
    return raw_bass(*[(low[0], low[1], figures) for low, figures in chords])


def voicings(k):
    return call(5, k)


def ways():
    return call(6)


def best():
    return call(7)


def raw_faults(told):
    """Voicings of plain numbers: lists of (step, raised)."""
    numbers = [8, len(told)]
    for voicing in told:
        numbers.append(len(voicing))
        for step, raised in voicing:
            numbers += [step, raised + 2]
    return call(*numbers)


def faults(*texts):
    return raw_faults([notes(text) for text in texts])


def voicing_row(text):
    """What a voicing is in an answer."""
    row = []
    for step, raised in notes(text):
        row += [step, raised + 2]
    return [len(row)] + row


def told_voicings(*texts):
    """What voicings answers of these."""
    found = [len(texts)]
    for text in texts:
        found += voicing_row(text)
    return found


def told_best(cost, *texts):
    """What best answers of these."""
    return [cost] + told_voicings(*texts)[1:]


def told_faults(*rows):
    """What faults answers of these, each (chord before, rule, voice, voice)."""
    found = [len(rows)]
    for row in rows:
        found += [4] + list(row)
    return found


def ask(*calls):
    """The answers to the calls, a list each."""
    joined = [number for numbers in calls for number in numbers]
    told = answers(joined)
    found = []
    place = 0
    while place < len(told):
        found.append(told[place + 1:place + 1 + told[place]])
        place += 1 + told[place]
    return found


def last(*calls):
    """The answer to the last of the calls."""
    return ask(*calls)[-1]


class Case(unittest.TestCase):
    """A test that asks."""

    def answers_last(self, expected, *calls):
        self.assertEqual(last(*calls), expected)

    def refused(self, number, *calls):
        """The last of the calls is refused, and all is as it was: the same questions get the same answers."""
        questions = [voicings(0), voicings(1), ways(), best(), raw_faults([])]
        found = ask(*calls)
        self.assertEqual(found[-1][0], number)
        with_it = ask(*calls, *questions)[-len(questions):]
        without_it = ask(*calls[:-1], *questions)[-len(questions):]
        self.assertEqual(with_it, without_it)
