"""What several of the tests need."""

import contextlib
import io
import itertools
import re

LETTERS = "CDEFGAB"
ALTERATIONS = {"bb": -2, "b": -1, "": 0, "#": 1, "##": 2}
KINDS = {
    "": 0, "m": 1, "dim": 2, "aug": 3, "sus2": 4, "sus4": 5, "5": 6, "6": 7, "m6": 8,
    "7": 9, "maj7": 10, "m7": 11, "m7b5": 12, "dim7": 13, "add9": 14, "9": 15, "m9": 16, "7sus4": 17,
}
NOTES = {
    letter + sign: [number, alteration]
    for number, letter in enumerate(LETTERS)
    for sign, alteration in ALTERATIONS.items()
}
# The tones above a root, one place each; x where the kind has one.
STEPS = {
    "": "x---x--x----", "m": "x--x---x----", "dim": "x--x--x-----", "aug": "x---x---x---", "sus2": "x-x----x----",
    "sus4": "x----x-x----", "5": "x------x----", "6": "x---x--x-x--", "m6": "x--x---x-x--", "7": "x---x--x--x-",
    "maj7": "x---x--x---x", "m7": "x--x---x--x-", "m7b5": "x--x--x---x-", "dim7": "x--x--x--x--",
    "add9": "x-x-x--x----", "9": "x-x-x--x--x-", "m9": "x-xx---x--x-", "7sus4": "x----x-x--x-",
}
CHORD = re.compile(
    "([A-G](?:##?|bb?)?)(" + "|".join(sorted(KINDS, reverse=True)) + ")(?:/([A-G](?:##?|bb?)?))?", re.DOTALL
)


def bytes_of(text):
    return list(text.encode("latin-1"))


def chords_of(text):
    """The song's chords as root, kind's name and bass (None if none is told), or None if the text is no song."""
    chords = []
    for part in text.split(" ") if text else []:
        found = CHORD.fullmatch(part)
        if found is None or found[1] == found[3]:
            return None
        chords.append(found.groups())
    return chords


def tone(note):
    return ("C-D-EF-G-A-B".index(note[0]) + note.count("#") - note.count("b")) % 12


def tones_of(root, name, bass):
    """The set of the tones that the chord has."""
    steps = STEPS[name]
    return {(tone(root) + step) % 12 for step in range(12) if steps[step] == "x"} | {tone(bass or root)}


class Unchanging(list):
    """A list that fails at any change, even one that is taken back."""

    def refuse(self, *args, **kwargs):
        raise AssertionError("what is handed in was changed")

    append = extend = insert = remove = pop = clear = sort = reverse = refuse
    __setitem__ = __delitem__ = __iadd__ = __imul__ = refuse


def copied(arguments):
    return [list(argument) if isinstance(argument, list) else argument for argument in arguments]


class CallChecks:
    """What holds of each call; stands beside TestCase, with the FUNCTION and its ARGUMENTS, several times."""

    def call(self, arguments):
        return type(self).FUNCTION(*arguments)

    def test_what_is_handed_in_is_not_changed(self):
        for arguments in self.ARGUMENTS:
            handed = copied(arguments)
            self.call(handed)
            self.assertEqual(handed, list(arguments))
            self.call([Unchanging(part) if isinstance(part, list) else part for part in handed])

    def test_second_call_answers_the_same(self):
        for arguments in self.ARGUMENTS:
            handed = copied(arguments)
            first = self.call(handed)
            kept = list(first)
            first.append(99)
            first[0] = 99
            for other in self.ARGUMENTS:
                self.call(copied(other))
            self.assertEqual(self.call(handed), kept)

    def test_whole_numbers_in_a_list(self):
        for arguments in self.ARGUMENTS:
            answer = self.call(copied(arguments))
            self.assertIs(type(answer), list)
            for number in answer:
                self.assertIs(type(number), int)

    def test_nothing_is_printed(self):
        out = io.StringIO()
        with contextlib.redirect_stdout(out), contextlib.redirect_stderr(out):
            for arguments in self.ARGUMENTS:
                self.call(copied(arguments))
        self.assertEqual(out.getvalue(), "")


def fingers_of(grip):
    """How many fingers a grip takes: L stands for the strings at the lowest fret, H for those at others."""
    lowest = min((number for number in grip if number > 1), default=None)
    signs = "".join("xo"[number] if number < 2 else "L" if number == lowest else "H" for number in grip)
    if re.search("L.*o.*L", signs):
        return signs.count("L") + signs.count("H")
    return signs.count("H") + ("L" in signs)


def good_grips(chord, tuning, position):
    """All good grips of the chord (root, kind's name, bass) at the position, the better ones first."""
    root, name, bass = chord
    had = tones_of(*chord)
    ways = []
    for pitch in tuning:
        sounding = [(1, pitch)] + [(fret + 1, pitch + fret) for fret in range(position + 1, position + 5)]
        ways.append([(0, None)] + [way for way in sounding if way[1] % 12 in had])
    good = []
    for held in itertools.product(*ways):
        pitches = [pitch for number, pitch in held if number]
        grip = [number for number, pitch in held]
        if len(tuning) - len(pitches) > 2 or {pitch % 12 for pitch in pitches} != had:
            continue
        if min(pitches) % 12 == tone(bass or root) and fingers_of(grip) <= 4:
            good.append(grip)
    # Sorting keeps the order of like ones, so the last thing that counts comes first.
    good.sort()
    good.sort(key=sum)
    good.sort(key=fingers_of)
    good.sort(key=lambda grip: grip.count(0))
    return good


def asked_grip(text, tuning):
    """What grip must answer, by another way than the program's."""
    if len(text) > 400 or not 1 <= len(tuning) <= 6 or any(pitch > 100 for pitch in tuning):
        return [-22]
    chords = chords_of(text)
    if chords is None or len(chords) != 1:
        return [-71]
    for position in range(10):
        good = good_grips(chords[0], tuning, position)
        if good:
            return [position] + good[0]
    return [-61]
