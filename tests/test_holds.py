"""Point 5: what holds of all four calls."""

import itertools
import unittest

from chordgrip.chords import grip, move, read, tones
from helper import KINDS, NOTES, bytes_of, chords_of, good_grips, tone

GUITAR = [40, 45, 50, 55, 59, 64]
BASS = [28, 33, 38, 43]
UKULELE = [67, 60, 64, 69]
TUNINGS = (GUITAR, BASS, UKULELE)
MOVES = list(itertools.product(range(7), range(12)))
CHORDS = [root + name for root, name in itertools.product(NOTES, KINDS)]
# A bass other than the root for each of them, the notes taken in turn.
WITH_BASS = [
    chord + "/" + bass
    for chord, bass in zip(CHORDS, itertools.cycle(list(NOTES)[:34]))
    if chords_of(chord)[0][0] != bass
]
SONGS = ["", "C", "Am F/A C G7", "Bb5 Bm7b5 B", "C/B# B##9 Cbbdim/G", "E/Fb Fb/E F#m7 F#m7/E D6 C#7sus4/B"]


def moved(text, half):
    """The chord, moved so far, in all ways in which it can be written."""
    answers = [move(letters, half, bytes_of(text)) for letters in range(7)]
    return [bytes(answer[1:]).decode() for answer in answers if answer[0] >= 0]


def bass_tone(text):
    root, name, bass = chords_of(text)[0]
    return tone(bass or root)


def pitches(numbers, tuning, higher=0):
    """The pitches that sound when a grip is moved up by so many frets."""
    return [pitch + number - 1 + higher for pitch, number in zip(tuning, numbers) if number > 0]


class Written(unittest.TestCase):
    def test_what_is_read_is_written_as_it_was(self):
        for text in CHORDS + WITH_BASS + SONGS:
            self.assertEqual(move(0, 0, bytes_of(text)), [len(text)] + bytes_of(text), text)

    def test_chords_written_are_read_as_what_they_were(self):
        for text, (letters, half) in itertools.product(WITH_BASS[::7] + CHORDS[::7] + SONGS, MOVES):
            there = move(letters, half, bytes_of(text))
            if there[0] >= 0:
                self.assertEqual(len(there), there[0] + 1)
                were, are = read(bytes_of(text)), read(there[1:])
                self.assertEqual(are[0], were[0])
                # The roots' letters and the kinds; alterations are told by the tones.
                self.assertEqual(are[1::5], [(letter + letters) % 7 for letter in were[1::5]])
                self.assertEqual(are[3::5], were[3::5])
                self.assertEqual(are[4::5], [7 if letter == 7 else (letter + letters) % 7 for letter in were[4::5]])


class Moved(unittest.TestCase):
    def test_moved_and_moved_back(self):
        for text, (letters, half) in itertools.product(WITH_BASS[::5] + SONGS, MOVES):
            there = move(letters, half, bytes_of(text))
            if there[0] >= 0:
                back = move(-letters % 7, -half % 12, there[1:])
                self.assertEqual(back, [len(text)] + bytes_of(text), (text, letters, half))

    def test_tones_move_along(self):
        for text, (letters, half) in itertools.product(WITH_BASS[::5] + CHORDS[::5], MOVES):
            there = move(letters, half, bytes_of(text))
            if there[0] >= 0:
                were = tones(bytes_of(text))
                along = sorted((one + half) % 12 for one in were[1:])
                self.assertEqual(tones(there[1:]), were[:1] + along, (text, letters, half))


class Gripped(unittest.TestCase):
    @classmethod
    def setUpClass(cls):
        cls.gripped = []
        for tuning, text in itertools.product(TUNINGS, CHORDS[::3] + WITH_BASS[::4]):
            answer = grip(bytes_of(text), list(tuning))
            if answer[0] >= 0:
                cls.gripped.append((text, tuning, answer[0], answer[1:]))
        cls.without_open = [one for one in cls.gripped if 1 not in one[3]]

    def test_there_are_many(self):
        self.assertGreater(len(self.gripped), 400)

    def test_a_grip_sounds_just_the_chords_tones_and_its_basss_lowest(self):
        for text, tuning, position, numbers in self.gripped:
            sounding = pitches(numbers, tuning)
            self.assertEqual(len(numbers), len(tuning))
            self.assertEqual(sorted({pitch % 12 for pitch in sounding}), tones(bytes_of(text))[1:], text)
            self.assertEqual(min(sounding) % 12, bass_tone(text), text)
            self.assertLessEqual(numbers.count(0), 2)
            for number in numbers:
                self.assertTrue(number < 2 or position + 1 <= number - 1 <= position + 4, (text, position, numbers))

    def test_none_at_a_lower_position_and_none_better_at_this_one(self):
        for text, tuning, position, numbers in self.gripped[::2]:
            chord = chords_of(text)[0]
            for lower in range(position):
                self.assertEqual(good_grips(chord, tuning, lower), [], (text, tuning))
            self.assertEqual(good_grips(chord, tuning, position)[0], numbers, (text, tuning))

    def test_a_grip_without_open_strings_moved_up_sounds_the_chord_moved_as_far(self):
        checked = 0
        for text, tuning, position, numbers in self.without_open:
            for higher in range(1, 12):
                sounding = pitches(numbers, tuning, higher)
                heard = sorted({pitch % 12 for pitch in sounding})
                for along in moved(text, higher):
                    self.assertEqual(heard, tones(bytes_of(along))[1:], (text, along))
                    self.assertEqual(min(sounding) % 12, bass_tone(along), (text, along))
                    checked += 1
        self.assertGreater(checked, 2000)

    def test_the_chord_moved_has_a_grip_no_higher_than_the_one_moved_up(self):
        checked = 0
        for text, tuning, position, numbers in self.without_open[::3]:
            for higher in range(1, 10 - position):
                for along in moved(text, higher)[:1]:
                    first = grip(bytes_of(along), list(tuning))[0]
                    self.assertTrue(0 <= first <= position + higher, (text, tuning, higher))
                    checked += 1
        self.assertGreater(checked, 100)


if __name__ == "__main__":
    unittest.main()
