"""What several of the tests need."""

import contextlib
import io
import re

LETTERS = "CDEFGAB"
ALTERATIONS = {"bb": -2, "b": -1, "": 0, "#": 1, "##": 2}
KINDS = {
    "": 0, "m": 1, "dim": 2, "aug": 3, "sus2": 4, "sus4": 5, "5": 6, "6": 7, "m6": 8,
    "7": 9, "maj7": 10, "m7": 11, "m7b5": 12, "dim7": 13, "add9": 14, "9": 15, "m9": 16, "7sus4": 17,
}
NOTES = {
    letter + sign: [number, alteration]
    for number, letter in enumerate(LETTERS)
    for sign, alteration in ALTERATIONS.items()
}
# The tones above a root, one place each; x where the kind has one.
STEPS = {
    "": "x---x--x----", "m": "x--x---x----", "dim": "x--x--x-----", "aug": "x---x---x---", "sus2": "x-x----x----",
    "sus4": "x----x-x----", "5": "x------x----", "6": "x---x--x-x--", "m6": "x--x---x-x--", "7": "x---x--x--x-",
    "maj7": "x---x--x---x", "m7": "x--x---x--x-", "m7b5": "x--x--x---x-", "dim7": "x--x--x--x--",
    "add9": "x-x-x--x----", "9": "x-x-x--x--x-", "m9": "x-xx---x--x-", "7sus4": "x----x-x--x-",
}
CHORD = re.compile(
    "([A-G](?:##?|bb?)?)(" + "|".join(sorted(KINDS, reverse=True)) + ")(?:/([A-G](?:##?|bb?)?))?", re.DOTALL
)


def bytes_of(text):
    return list(text.encode("latin-1"))


def chords_of(text):
    """The song's chords as root, kind's name and bass (None if none is told), or None if the text is no song."""
    chords = []
    for part in text.split(" ") if text else []:
        found = CHORD.fullmatch(part)
        if found is None or found[1] == found[3]:
            return None
        chords.append(found.groups())
    return chords


def tone(note):
    return ("C-D-EF-G-A-B".index(note[0]) + note.count("#") - note.count("b")) % 12


def tones_of(root, name, bass):
    """The set of the tones that the chord has."""
    steps = STEPS[name]
    return {(tone(root) + step) % 12 for step in range(12) if steps[step] == "x"} | {tone(bass or root)}


class Unchanging(list):
    """A list that fails at any change, even one that is taken back."""

    def refuse(self, *args, **kwargs):
        raise AssertionError("what is handed in was changed")

    append = extend = insert = remove = pop = clear = sort = reverse = refuse
    __setitem__ = __delitem__ = __iadd__ = __imul__ = refuse


def copied(arguments):
    return [list(argument) if isinstance(argument, list) else argument for argument in arguments]


class CallChecks:
    """What holds of each call; stands beside TestCase, with the FUNCTION and its ARGUMENTS, several times."""

    def call(self, arguments):
        return type(self).FUNCTION(*arguments)

    def test_what_is_handed_in_is_not_changed(self):
        for arguments in self.ARGUMENTS:
            handed = copied(arguments)
            self.call(handed)
            self.assertEqual(handed, list(arguments))
            self.call([Unchanging(part) if isinstance(part, list) else part for part in handed])

    def test_second_call_answers_the_same(self):
        for arguments in self.ARGUMENTS:
            handed = copied(arguments)
            first = self.call(handed)
            kept = list(first)
            first.append(99)
            first[0] = 99
            for other in self.ARGUMENTS:
                self.call(copied(other))
            self.assertEqual(self.call(handed), kept)

    def test_whole_numbers_in_a_list(self):
        for arguments in self.ARGUMENTS:
            answer = self.call(copied(arguments))
            self.assertIs(type(answer), list)
            for number in answer:
                self.assertIs(type(number), int)

    def test_nothing_is_printed(self):
        out = io.StringIO()
        with contextlib.redirect_stdout(out), contextlib.redirect_stderr(out):
            for arguments in self.ARGUMENTS:
                self.call(copied(arguments))
        self.assertEqual(out.getvalue(), "")
