"""Point 4: grip."""

import itertools
import random
import unittest

from chordgrip.chords import grip
from helper import KINDS, NOTES, CallChecks, asked_grip, bytes_of, chords_of, fingers_of, good_grips

GUITAR = [40, 45, 50, 55, 59, 64]
OPEN_G = [38, 43, 50, 55, 59, 62]
BASS = [28, 33, 38, 43]
UKULELE = [67, 60, 64, 69]
TUNINGS = (GUITAR, BASS, UKULELE)
ROOTS = "C C# D Eb E F F# G Ab A Bb B".split()


def numbers(frets):
    """A grip's numbers from its frets as they are often told: x for a silent string, 0 for an open one."""
    return [0 if fret == "x" else int(fret) + 1 for fret in frets.split()]


class GripTest(unittest.TestCase):
    def answers(self, tuning, text, position, frets):
        with self.subTest(tuning=tuning, text=text):
            self.assertEqual(grip(bytes_of(text), list(tuning)), [position] + numbers(frets))

    def refuses(self, tuning, texts, number):
        for text in texts:
            with self.subTest(tuning=tuning, text=text):
                self.assertEqual(grip(bytes_of(text), list(tuning)), [number])

    def holds(self, tuning, text):
        self.assertEqual(grip(bytes_of(text), list(tuning)), asked_grip(text, tuning), (text, tuning))

    def prefers(self, tuning, text, position, best, other):
        """Both are good grips at the position, and the first is answered."""
        self.answers(tuning, text, position, best)
        self.assertIn(numbers(other), good_grips(chords_of(text)[0], tuning, position), text)


class Ordinary(GripTest):
    def test_guitar(self):
        known = {
            "C": "x 3 2 0 1 0", "D": "x x 0 2 3 2", "E": "0 2 2 1 0 0", "F": "1 3 3 2 1 1", "G": "3 2 0 0 0 3",
            "A": "x 0 2 2 2 0", "Am": "x 0 2 2 1 0", "Em": "0 2 2 0 0 0", "Dm": "x x 0 2 3 1", "G7": "3 2 0 0 0 1",
            "C/G": "3 3 2 0 1 0", "D/F#": "2 0 0 2 3 2", "C/E": "0 3 2 0 1 0", "Am/G": "3 0 2 0 1 0",
        }
        for text, frets in known.items():
            self.answers(GUITAR, text, 0, frets)

    def test_bass(self):
        self.answers(BASS, "E", 0, "0 2 2 1")
        self.answers(BASS, "G", 0, "3 2 0 0")
        self.answers(BASS, "C", 0, "x 3 2 0")
        self.answers(BASS, "C/G", 0, "3 3 2 0")
        self.answers(BASS, "D", 1, "x 5 4 2")

    def test_ukulele(self):
        self.answers(UKULELE, "C", 0, "0 0 0 3")
        self.answers(UKULELE, "C7", 0, "0 0 0 1")
        self.answers(UKULELE, "D", 0, "2 2 2 0")
        self.answers(UKULELE, "F", 0, "2 x 1 3")
        self.answers(UKULELE, "F/C", 0, "2 0 1 0")
        self.answers(UKULELE, "C/G", 3, "5 7 x 7")

    def test_every_chord_against_another_search(self):
        for tuning, root, name in itertools.product(TUNINGS, ROOTS, KINDS):
            self.holds(tuning, root + name)

    def test_every_chord_with_a_bass_of_its_own_against_another_search(self):
        basses = itertools.cycle(ROOTS + ["Cbb", "E#", "B##", "Fb", "G##"])
        for tuning, root, name in itertools.product(TUNINGS, ROOTS, KINDS):
            bass = next(basses)
            if bass != root:
                self.holds(tuning, root + name + "/" + bass)

    def test_many_tunings_against_another_search(self):
        # Always the same cases: the seed is written.
        choose = random.Random(4)
        for case in range(700):
            lowest = choose.randrange(0, 70)
            tuning = [lowest + choose.randrange(0, 31) for string in range(choose.randrange(1, 7))]
            root, name, bass = choose.choice(list(NOTES)), choose.choice(list(KINDS)), choose.choice(list(NOTES))
            self.holds(tuning, root + name + ("/" + bass if case % 3 == 0 and bass != root else ""))


class Strings(GripTest):
    def test_how_many(self):
        self.refuses([], ["C", "Am/G"], -22)
        self.refuses(GUITAR + [69], ["C", "E5"], -22)
        self.refuses([60] * 7, ["C5"], -22)
        self.refuses([60] * 19, ["C5"], -22)
        self.refuses([60] * 20, ["C5"], -22)
        self.answers(GUITAR, "C", 0, "x 3 2 0 1 0")
        self.answers([40, 45, 50, 55, 59], "Em", 0, "0 2 2 0 0")

    def test_one(self):
        for pitch, text in itertools.product((0, 7, 60, 100), ["C", "C5", "G5", "C5/B#", "Am7", "E9/F", "Bdim7"]):
            self.refuses([pitch], [text], -61)

    def test_two(self):
        self.answers([48, 55], "C5", 0, "0 0")
        self.answers([48, 55], "C5/G", 3, "7 5")
        self.refuses([48, 55], ["C", "Cm", "C5/E"], -61)

    def test_pitches(self):
        self.answers([0, 4, 7], "C", 0, "0 0 0")
        self.answers([100, 95, 92], "E/G#", 0, "0 0 0")
        self.answers([92, 95, 100, 0], "E5/C", 0, "3 0 0 0")
        for pitch in (101, 102, 112, 128, 254, 255):
            for place in range(6):
                tuning = list(GUITAR)
                tuning[place] = pitch
                self.refuses(tuning, ["C", "Em"], -22)
            self.refuses([pitch], ["C"], -22)

    def test_pitches_that_differ_by_twelve(self):
        for text in ("C", "F#m7b5", "D/F#"):
            answer = grip(bytes_of(text), list(GUITAR))
            for lower in (-36, -24, -12, 12, 24, 36):
                self.assertEqual(grip(bytes_of(text), [pitch + lower for pitch in GUITAR]), answer)


class Good(GripTest):
    def test_five_tones_on_four_strings(self):
        for tuning, root, name in itertools.product((BASS, UKULELE, [0, 2, 4, 7]), ROOTS, ("9", "m9")):
            self.refuses(tuning, [root + name], -61)
        self.refuses(UKULELE, ["C7/D", "Am7/F"], -61)
        self.answers([48, 50, 52, 55, 58], "C9", 0, "0 0 0 0 0")

    def test_six_tones(self):
        self.refuses([48, 50, 52, 55, 58], ["C9/F"], -61)
        self.answers([48, 50, 52, 55, 58, 41], "C9/F", 0, "0 0 0 0 0 0")
        self.answers(GUITAR, "F#m9/G", 0, "3 0 4 1 2 0")

    def test_each_tone_sounds(self):
        # x 3 2 3 1 0 would leave fewer strings silent, but no G sounds in it.
        self.answers(GUITAR, "C7", 0, "x 3 2 3 x 3")

    def test_no_other_tone_sounds(self):
        self.answers(GUITAR, "C5", 0, "x 3 x 0 1 3")

    def test_all_open(self):
        self.answers([48, 52, 55], "C", 0, "0 0 0")
        self.answers(OPEN_G, "G/D", 0, "0 0 0 0 0 0")
        self.answers([60, 67], "C5", 0, "0 0")

    def test_all_on_one_fret(self):
        self.answers(OPEN_G, "Ab/Eb", 0, "1 1 1 1 1 1")
        self.answers([47, 51, 54], "C", 0, "1 1 1")
        self.answers([44, 48, 51], "C", 0, "4 4 4")
        self.answers([43, 47, 50], "C", 1, "5 5 5")

    def test_lowest_string_that_is_silent(self):
        self.answers(GUITAR, "Am", 0, "x 0 2 2 1 0")
        self.answers(GUITAR, "Dm", 0, "x x 0 2 3 1")
        self.answers(UKULELE, "Bb", 4, "7 x 6 8")
        self.answers([64, 59, 55, 50, 45, 40], "Am", 0, "0 1 2 2 0 x")

    def test_lowest_pitch_has_the_basss_tone(self):
        # The first string that sounds is not the lowest one.
        self.answers(UKULELE, "C", 0, "0 0 0 3")
        self.answers(UKULELE, "C/E", 0, "0 4 0 3")
        # x 6 0 5 3 3 would do if the second string were asked, but the open third one sounds lower.
        self.answers(GUITAR, "Csus2/Eb", 2, "x 6 5 5 3 3")
        self.answers(BASS, "Cm6/Eb", 8, "11 12 10 0")

    def test_bass_by_another_name(self):
        for one, other in (("C/B#", "C"), ("D/Gb", "D/F#"), ("C/Fb", "C/E"), ("Fb", "E"), ("B##m", "C#m")):
            for tuning in TUNINGS:
                self.assertEqual(grip(bytes_of(one), list(tuning)), grip(bytes_of(other), list(tuning)))

    def test_two_silent_strings(self):
        self.answers(GUITAR, "C/D", 0, "x x 0 0 1 0")
        self.answers(BASS, "C5", 0, "x 3 x 0")
        self.answers(UKULELE, "F5", 0, "x x 1 3")

    def test_three_silent_strings_are_too_many(self):
        # x x 0 2 3 x would be at position 0.
        self.answers(GUITAR, "D5", 1, "x 5 0 2 3 5")
        self.answers(GUITAR, "Cdim/Eb", 2, "x 6 4 5 4 x")

    def test_positions(self):
        self.answers(GUITAR, "C9", 1, "x 3 5 3 3 0")
        self.answers(GUITAR, "Eb9", 5, "x 6 8 0 6 9")
        self.answers(BASS, "Cm6/Eb", 8, "11 12 10 0")

    def test_highest_position(self):
        self.answers(GUITAR, "A9/F", 9, "13 12 11 0 0 0")
        self.answers(GUITAR, "Ebm9/A", 9, "13 0 11 11 11 11")
        self.answers(BASS, "D/F", 9, "13 12 12 11")
        self.answers(UKULELE, "D/C#", 9, "11 13 10 12")

    def test_none(self):
        self.refuses(GUITAR, ["C9/C#", "Cm9/F", "Dm9/Eb"], -61)
        self.refuses(UKULELE, ["Cm/C#", "C9"], -61)
        # These would be at position 10.
        self.refuses(GUITAR, ["Ebm9/D", "F#9/D"], -61)
        self.refuses(BASS, ["C#sus4/A", "F#add9"], -61)
        self.refuses(UKULELE, ["Eb/D", "Dadd9"], -61)


class Fingers(GripTest):
    def test_just_four(self):
        for tuning, text, position, frets in (
            (GUITAR, "C/G", 0, "3 3 2 0 1 0"), (GUITAR, "B", 0, "x 2 1 4 0 2"), (GUITAR, "Cm", 0, "x 3 1 0 1 3"),
            (GUITAR, "F", 0, "1 3 3 2 1 1"), (UKULELE, "C/B", 7, "9 11 8 10"), (BASS, "Cdim/G", 2, "3 6 4 5"),
        ):
            self.answers(tuning, text, position, frets)
            self.assertEqual(fingers_of(numbers(frets)), 4)

    def test_five_are_too_many(self):
        # With five, 2 3 1 0 1 2 and 1 3 3 0 1 1 and x 3 2 2 1 3 would leave fewer strings silent.
        self.answers(GUITAR, "Cm/F#", 0, "2 x 1 0 1 2")
        self.answers(GUITAR, "C5/F", 0, "1 x 3 0 1 1")
        self.answers(GUITAR, "C6", 0, "x 3 2 2 x 3")

    def test_one_for_all_at_the_lowest_fret(self):
        self.answers(GUITAR, "F", 0, "1 3 3 2 1 1")
        self.answers(GUITAR, "Fm", 0, "1 3 3 1 1 1")
        self.answers(GUITAR, "F#", 0, "2 4 4 3 2 2")

    def test_one_each_at_other_frets(self):
        # 4 4 4 2 would take less if one finger did for all strings at fret 4.
        self.prefers(UKULELE, "E", 0, "1 4 0 2", "4 4 4 2")
        self.prefers(GUITAR, "Cm", 0, "x 3 1 0 1 3", "x 3 1 0 4 3")

    def test_open_string_between(self):
        self.prefers(GUITAR, "Cm/Bb", 0, "x 1 1 3 1 3", "x 1 1 0 1 3")
        self.prefers(UKULELE, "Esus4/C", 0, "4 0 0 0", "2 0 0 2")
        self.prefers(BASS, "Bm7/F#", 0, "2 0 0 4", "2 2 0 2")
        # One finger does not do for the third and the fifth string, so that 3 3 1 0 1 3 takes five.
        self.answers(GUITAR, "Cm/G", 0, "3 x 1 0 1 3")
        self.assertNotIn(numbers("3 3 1 0 1 3"), good_grips(chords_of("Cm/G")[0], GUITAR, 0))

    def test_open_string_outside(self):
        # Behind the strings at the lowest fret, then ahead of them.
        self.prefers(GUITAR, "Caug/F", 0, "1 3 2 1 1 0", "1 3 2 1 1 1")
        self.prefers(GUITAR, "Caug/G", 0, "3 3 2 1 1 0", "3 x 2 1 1 0")
        self.prefers(BASS, "Esus4", 0, "0 2 2 2", "0 0 2 4")
        self.prefers(GUITAR, "Csus4/G", 0, "3 3 3 0 1 1", "3 x 3 0 1 1")

    def test_silent_string_between(self):
        self.prefers(GUITAR, "C#m/F#", 0, "2 4 2 x 2 4", "2 x 2 1 2 0")
        self.prefers(GUITAR, "C7sus4/C#", 5, "9 8 8 x 8 8", "9 x 8 0 6 8")
        self.prefers(GUITAR, "Cdim/F#", 0, "2 3 1 x 1 2", "2 x 1 x 1 2")


class Better(GripTest):
    def test_fewer_silent_strings_ahead_of_fewer_fingers(self):
        self.prefers(GUITAR, "C/G", 0, "3 3 2 0 1 0", "3 x 2 0 1 0")
        self.prefers(GUITAR, "C/E", 0, "0 3 2 0 1 0", "0 x x 0 1 0")
        self.prefers(UKULELE, "C", 0, "0 0 0 3", "0 0 0 x")

    def test_fewer_fingers_ahead_of_a_lesser_sum(self):
        self.prefers(GUITAR, "C#m/B", 0, "x 2 2 4 2 4", "x 2 2 1 2 0")
        self.prefers(GUITAR, "Cmaj7/E", 0, "0 3 2 0 0 0", "0 2 2 0 1 0")
        self.prefers(BASS, "Csus2/A", 1, "5 5 5 5", "5 3 0 0")

    def test_lesser_sum_ahead_of_the_order(self):
        self.prefers(GUITAR, "C5/F#", 0, "2 3 x 0 1 2", "2 x 4 0 1 2")
        self.prefers(GUITAR, "C#m7/E", 0, "0 4 2 1 0 0", "0 2 2 4 2 4")
        self.prefers(BASS, "C5/A", 1, "5 3 5 0", "5 0 5 5")
        self.prefers([48, 48, 48], "C5", 3, "0 0 7", "0 7 7")

    def test_order(self):
        self.prefers(GUITAR, "Csus4/E", 0, "0 3 2 0 1 1", "0 3 3 0 1 0")
        self.prefers(GUITAR, "Cm/G", 0, "3 x 1 0 1 3", "3 3 1 0 1 x")
        self.prefers(UKULELE, "Fadd9", 1, "0 5 5 3", "5 5 3 0")
        self.prefers([48, 48], "C5", 3, "0 7", "7 0")
        self.prefers([48, 48, 48], "C5", 3, "0 0 7", "0 7 0")


class Wrong(GripTest):
    TEXTS = ["", "C G", "C C", "x", "c", "C/C", "C  G", " C", "C ", "C/", "C//G", "Cm7b", "C###", "b5", "\0", "\xff", "C\xff"]

    def test_no_single_chord(self):
        for tuning in TUNINGS + ([60],):
            self.refuses(tuning, self.TEXTS, -71)

    def test_length(self):
        self.refuses(GUITAR, ["C" * 400, "C " * 199 + "Cm", " " * 400, "x" * 399], -71)
        self.refuses(GUITAR, ["C" * 401, "C " * 200 + "C", " " * 401, "C " * 250, "x" * 500], -22)

    def test_high_bytes(self):
        for byte in range(128, 256):
            for t in ([byte], [67, byte], [byte, 67], [67, 32, byte], [67, 47, byte]):
                self.assertEqual(grip(t, list(UKULELE)), [-71], t)

    def test_strings_are_told_ahead_of_no_chord(self):
        for tuning in ([], GUITAR + [69], [60] * 20, [101], [40, 255], GUITAR[:5] + [101]):
            self.refuses(tuning, self.TEXTS, -22)
            self.refuses(tuning, ["C" * 401], -22)

    def test_strings_are_told_ahead_of_no_grip(self):
        self.refuses([101], ["C"], -22)
        self.refuses([0, 101], ["C9"], -22)


class Call(CallChecks, unittest.TestCase):
    FUNCTION = grip
    ARGUMENTS = [
        [bytes_of(text), list(tuning)]
        for tuning in TUNINGS + ([], [60], [101], GUITAR + [69], [60] * 20)
        for text in ("", "C", "F#m7b5", "C9/C#", "Am F", "C/C", "C" * 401, "x" * 500)
    ]


if __name__ == "__main__":
    unittest.main()
