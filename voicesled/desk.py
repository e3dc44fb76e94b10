"""The desk: takes a line's calls as one list of whole numbers, and answers them as one list."""

from voicesled.line import Line
from voicesled.rows import Reader

# The calls' places in a list; the one that is left, faults, has 8.
BEGINS = 0
KEY = 1
VOICES = 2
RULES = 3
BASS = 4
VOICINGS = 5
WAYS = 6
BEST = 7


def answer_to(line, reader):
    """The answer to the call that the reader stands at."""
    call = reader.read_number()
    if call == BEGINS:
        return line.begin()
    if call == KEY:
        return line.set_key(reader.read_row())
    if call == VOICES:
        return line.set_voices(reader.read_row(), reader.read_number())
    if call == RULES:
        return line.set_rules(reader.read_row(), reader.read_number(), reader.read_number())
    if call == BASS:
        return line.set_bass(reader.read_chords())
    if call == VOICINGS:
        return line.tell_voicings(reader.read_number())
    if call == WAYS:
        return line.tell_ways()
    if call == BEST:
        return line.tell_best()
    return line.tell_faults(reader.read_voicings())


def answers(calls):
    """For each call of a new line, in order: how many numbers are answered, then these."""
    line = Line()
    found = []
    place = 0
    while place < len(calls):
        # Ahead of a call's own numbers stand the number of the one call there is, and how many they are.
        count = calls[place + 1]
        answer = answer_to(line, Reader(calls, place + 2))
        found.append(len(answer))
        found.extend(answer)
        place += 2 + count
    return found
