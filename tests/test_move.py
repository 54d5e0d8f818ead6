"""Point 3: move."""

import itertools
import unittest

from chordgrip.chords import move, read, tones
from helper import KINDS, LETTERS, NOTES, CallChecks, bytes_of, chords_of, tone

MOST = 4294967295
MOVES = list(itertools.product(range(7), range(12)))


def moved_note(note, letters, half):
    """The one note that has the letter and the tone that are asked for, or None if there is none."""
    letter = (LETTERS * 2)[LETTERS.index(note[0]) + letters]
    found = [other for other in NOTES if other[0] == letter and (tone(other) - tone(note) - half) % 12 == 0]
    return found[0] if found else None


def asked(letters, half, text):
    """What move must answer, by another way than the program's."""
    if len(text) > 400 or letters > 6 or half > 11:
        return [-22]
    chords = chords_of(text)
    if chords is None:
        return [-71]
    names = []
    for root, kind, bass in chords:
        notes = [moved_note(note, letters, half) for note in (root, bass) if note]
        if None in notes:
            return [-34]
        names.append("/".join([notes[0] + kind] + notes[1:]))
    song = bytes_of(" ".join(names))
    return [len(song)] + song


class MoveTest(unittest.TestCase):
    def answers(self, letters, half, text, song):
        with self.subTest(letters=letters, half=half, text=text):
            self.assertEqual(move(letters, half, bytes_of(text)), [len(song)] + bytes_of(song))

    def refuses(self, letters, half, texts, number):
        for text in texts:
            with self.subTest(letters=letters, half=half, text=text):
                self.assertEqual(move(letters, half, bytes_of(text)), [number])


class Ordinary(MoveTest):
    def test_one_chord(self):
        self.answers(1, 2, "C", "D")
        self.answers(2, 3, "Am", "Cm")
        self.answers(3, 5, "D/F#", "G/B")
        self.answers(4, 7, "Bbm7b5/Ab", "Fm7b5/Eb")
        self.answers(0, 1, "G7", "G#7")
        self.answers(1, 1, "G7", "Ab7")
        self.answers(0, 11, "E9", "Eb9")
        self.answers(6, 10, "C7sus4", "Bb7sus4")

    def test_several_chords(self):
        self.answers(1, 2, "Am F/A C G7", "Bm G/B D A7")
        self.answers(5, 9, "C Am Dm7 G/B", "A F#m Bm7 E/G#")
        self.answers(3, 6, "Eb C#dim", "A F##dim")
        self.answers(1, 0, "C# F##/A C#", "Db G/Bbb Db")

    def test_each_kind(self):
        for name in KINDS:
            self.answers(2, 4, "F#" + name, "A#" + name)
            self.answers(2, 3, "F#" + name + "/Eb", "A" + name + "/Gb")
        self.answers(1, 1, " ".join("B" + name for name in KINDS), " ".join("C" + name for name in KINDS))

    def test_each_kind_by_each_move(self):
        for (letters, half), name in itertools.product(MOVES, KINDS):
            for text in ("F#" + name, "Bb" + name + "/D", "G D/A C" + name + "/Eb"):
                self.assertEqual(move(letters, half, bytes_of(text)), asked(letters, half, text), (letters, half, text))

    def test_every_root_and_bass_by_each_move(self):
        names = itertools.cycle(KINDS)
        for root, bass in itertools.product(NOTES, [None] + list(NOTES)):
            text = root + next(names) + ("/" + bass if bass else "")
            for letters, half in MOVES:
                self.assertEqual(move(letters, half, bytes_of(text)), asked(letters, half, text), (letters, half, text))

    def test_by_nothing(self):
        for root, name in itertools.product(NOTES, KINDS):
            self.answers(0, 0, root + name, root + name)
            for bass in ("C", "F##", "Bbb"):
                if bass != root:
                    self.answers(0, 0, root + name + "/" + bass, root + name + "/" + bass)
        song = "Am F/A Bbm7b5 C##/Dbb B##maj7"
        self.answers(0, 0, song, song)

    def test_behind_b_comes_c(self):
        self.answers(1, 1, "B", "C")
        self.answers(6, 11, "C", "B")
        self.answers(6, 10, "D/E", "C/D")
        self.answers(2, 3, "A/B", "C/D")


class Edges(MoveTest):
    def test_no_bytes(self):
        for letters, half in MOVES:
            self.answers(letters, half, "", "")

    def test_length(self):
        self.answers(0, 0, "C " * 199 + "C", "C " * 199 + "C")
        self.answers(1, 2, "C " * 199 + "Cm", "D " * 199 + "Dm")
        self.refuses(1, 2, ["C " * 200 + "C", "C " * 249 + "Cm"], -22)
        self.assertEqual(len("C " * 199 + "Cm"), 400)
        self.assertEqual(len("C " * 200 + "C"), 401)
        self.assertEqual(len("C " * 249 + "Cm"), 500)

    def test_length_of_no_song(self):
        self.refuses(1, 2, ["C " * 200, "x" * 400, " " * 400], -71)
        self.refuses(1, 2, ["C " * 200 + " ", "x" * 401, " " * 500], -22)

    def test_a_song_that_gets_longer_than_it_may_be_handed_in(self):
        self.answers(0, 1, "C " * 199 + "Cm", "C# " * 199 + "C#m")
        self.answers(0, 2, "C " * 199 + "Cm", "C## " * 199 + "C##m")
        self.answers(0, 10, "C/D " * 99 + "Cm/D", "Cbb/Dbb " * 99 + "Cbbm/Dbb")
        self.assertEqual(len("C/D " * 99 + "Cm/D"), 400)
        self.assertEqual(move(0, 10, bytes_of("C/D " * 99 + "Cm/D"))[0], 8 * 99 + 8)

    def test_a_song_that_gets_shorter(self):
        self.answers(1, 0, "B##/A## " * 49 + "B##/A##", "C#/B " * 49 + "C#/B")

    def test_letters(self):
        self.answers(6, 11, "C", "B")
        for letters in (7, 8, 14, 2 ** 31, 2 ** 32 - 7, MOST):
            for half in (0, 11, 12, MOST):
                self.refuses(letters, half, ["", "C", "F/A C", "x"], -22)

    def test_half(self):
        self.answers(0, 11, "C", "Cb")
        for half in (12, 13, 24, 2 ** 31, 2 ** 32 - 4, MOST):
            for letters in (0, 6, 7, MOST):
                self.refuses(letters, half, ["", "C", "F/A C", "x"], -22)

    def test_alterations_of_a_root(self):
        self.answers(0, 2, "C", "C##")
        self.refuses(0, 3, ["C"], -34)
        self.answers(0, 10, "C", "Cbb")
        self.refuses(0, 9, ["C"], -34)
        # The alterations 4, 5, 6 and -5, -4.
        for half in (4, 5, 6, 7, 8):
            self.refuses(0, half, ["C", "Cm7/G"], -34)
        self.answers(0, 1, "F#", "F##")
        self.refuses(0, 1, ["F##", "F##m", "F##/A"], -34)
        self.answers(0, 11, "Fb", "Fbb")
        self.refuses(0, 11, ["Fbb", "Fbbm", "Fbb/A"], -34)

    def test_alterations_of_a_bass(self):
        # The root's can be written each time; the bass's are 2, 3, -2, -3, 6 and -5.
        self.answers(0, 2, "Db/C", "D#/C##")
        self.refuses(0, 3, ["Dbb/C", "Db/C"], -34)
        self.answers(0, 10, "D#/C", "Db/Cbb")
        self.refuses(0, 9, ["D##/C", "D#/C"], -34)
        self.refuses(0, 4, ["Dbb/C##"], -34)
        self.refuses(0, 9, ["D##/Cbb"], -34)
        self.answers(0, 3, "Dbb/Cb", "D#/C##")
        self.answers(0, 9, "D##/C#", "Db/Cbb")
        self.refuses(1, 2, ["C/E##", "C/B##"], -34)
        self.refuses(4, 6, ["B/Ebb", "F#/Cbb"], -34)

    def test_alterations_of_a_root_alone(self):
        self.refuses(1, 2, ["E##/C", "B##/C", "B##m7b5/A"], -34)
        self.refuses(4, 6, ["Ebb/B", "Cbb/F#"], -34)

    def test_alterations_in_one_chord_alone(self):
        for place in range(4):
            for chord in ("B##", "C/B##", "E##/C", "E##m7"):
                chords = ["C", "F/A", "Gm"]
                chords.insert(place, chord)
                self.refuses(1, 2, [" ".join(chords)], -34)
        self.refuses(0, 1, ["C " * 198 + "C##", "C " * 197 + "C/C##"], -34)

    def test_alterations_in_the_last_chord_alone(self):
        self.answers(0, 2, "Cb C", "C# C##")
        self.refuses(0, 3, ["Cb C", "Cb Db/C"], -34)
        self.answers(0, 10, "C# C", "Cb Cbb")
        self.refuses(0, 9, ["C# C", "C# D#/C"], -34)
        self.refuses(0, 4, ["Cbb C##", "Cbb Dbb/C##"], -34)
        self.refuses(0, 9, ["C## Cbb", "C## D##/Cbb"], -34)

    def test_b_sharp_sharp(self):
        self.answers(0, 0, "B##", "B##")
        self.answers(1, 0, "B##", "C#")
        self.answers(1, 1, "B##", "C##")
        self.answers(1, 11, "B##", "C")
        self.answers(1, 10, "B##", "Cb")
        self.answers(1, 9, "B##", "Cbb")
        self.refuses(1, 2, ["B##"], -34)
        self.refuses(1, 8, ["B##"], -34)
        self.answers(0, 8, "B##", "Bbb")
        self.refuses(0, 1, ["B##"], -34)
        self.answers(0, 0, "B##/Cbb", "B##/Cbb")
        self.answers(1, 11, "B##/A#", "C/Bbb")
        self.answers(1, 0, "G/B##", "Abb/C#")

    def test_c_flat_flat(self):
        self.answers(6, 0, "Cbb", "Bb")
        self.answers(6, 1, "Cbb", "B")
        self.answers(6, 3, "Cbb", "B##")
        self.answers(6, 11, "Cbb", "Bbb")
        self.refuses(6, 4, ["Cbb"], -34)
        self.refuses(6, 10, ["Cbb"], -34)

    def test_bass_that_is_the_root_by_another_name(self):
        self.answers(1, 2, "C/B#", "D/C##")
        self.answers(4, 7, "Ab/G#", "Eb/D#")

    def test_b_behind_the_letter(self):
        self.answers(0, 11, "B5", "Bb5")
        self.answers(0, 1, "Bb5", "B5")
        self.answers(0, 11, "Bb5 Bm7b5", "Bbb5 Bbm7b5")


class Wrong(MoveTest):
    def test_no_song(self):
        texts = ["x", "H", "c", "m", "#", "/", "C/", "C//G", "C/C", "CG", "C###", "C#b", "C\nG", "\0", "b5", "B b5", "\xff"]
        for letters, half in ((0, 0), (1, 2), (6, 11)):
            self.refuses(letters, half, texts, -71)
            self.refuses(letters, half, ["C " + text for text in texts], -71)

    def test_blanks(self):
        for letters, half in ((0, 0), (1, 2), (6, 11)):
            self.refuses(letters, half, [" ", "  ", "C  G", " C", "C ", "C G  Am", "C/ G"], -71)

    def test_high_bytes(self):
        for byte in range(128, 256):
            for t in ([byte], [67, byte], [byte, 67], [67, 32, byte], [67, 47, byte]):
                self.assertEqual(move(1, 2, t), [-71], t)

    def test_all_short_texts(self):
        for n in range(5):
            for signs in itertools.product("CB#b/ m", repeat=n):
                text = "".join(signs)
                for letters, half in ((0, 0), (1, 1), (7, 0)):
                    self.assertEqual(move(letters, half, bytes_of(text)), asked(letters, half, text), text)


class SeveralRefusals(MoveTest):
    def test_numbers_that_are_too_large_with_no_song(self):
        self.refuses(7, 0, ["x", "C  G", "C/C", " "], -22)
        self.refuses(0, 12, ["x", "C  G", "C/C", " "], -22)
        self.refuses(MOST, MOST, ["x", "C " * 250], -22)

    def test_numbers_that_are_too_large_with_a_note_that_is_none(self):
        self.refuses(7, 2, ["E##"], -22)
        self.refuses(0, 15, ["C"], -22)

    def test_too_long_with_a_note_that_is_none(self):
        self.refuses(0, 3, ["C " * 200 + "C"], -22)

    def test_no_song_with_a_note_that_is_none_ahead_or_behind(self):
        self.refuses(0, 1, ["C## x", "C##  C", "C## ", "C## C/C", "C/C## x", "C## G H", "x C##", " C##"], -71)
        self.refuses(0, 6, ["C x", "C ", "C G /", "C C " * 99 + "x"], -71)


class Back(MoveTest):
    SONGS = [
        "", "C", "Am F/A C G7", "Bb5 Bm7b5 Ebmaj7/G", "C#m/G# F##dim7", "Dbb/Cb", "B##sus4", "Cbb9/B##", "E/Fb Fb/E",
    ]

    def test_moved_and_moved_back(self):
        moved_at_all = 0
        for text, (letters, half) in itertools.product(self.SONGS + list(NOTES), MOVES):
            there = move(letters, half, bytes_of(text))
            if there[0] >= 0:
                moved_at_all += 1
                back = move(-letters % 7, -half % 12, there[1:])
                self.assertEqual(back, [len(text)] + bytes_of(text), (text, letters, half))
        self.assertGreater(moved_at_all, 1000)

    def test_what_is_moved_is_a_song_with_the_tones_moved_along(self):
        for text, (letters, half) in itertools.product(self.SONGS, MOVES):
            there = move(letters, half, bytes_of(text))
            if there[0] >= 0:
                self.assertEqual(read(there[1:])[0], read(bytes_of(text))[0])
                for chord, moved in zip(text.split(), bytes(there[1:]).decode().split()):
                    were = tones(bytes_of(chord))
                    along = sorted((one + half) % 12 for one in were[1:])
                    self.assertEqual(tones(bytes_of(moved)), were[:1] + along)


class Call(CallChecks, unittest.TestCase):
    FUNCTION = move
    ARGUMENTS = [
        [letters, half, bytes_of(text)]
        for letters, half in ((0, 0), (1, 2), (6, 11), (7, 0), (0, 12), (MOST, MOST))
        for text in ("", "C", "Am F/A Bbm7b5", "B##/Cbb", "C/C", "C  G", "C " * 199 + "Cm", "C " * 200 + "C", "x" * 500)
    ]


if __name__ == "__main__":
    unittest.main()
