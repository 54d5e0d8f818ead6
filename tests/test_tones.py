"""Point 2: tones."""

import itertools
import unittest

from chordgrip.chords import read, tones
from helper import KINDS, NOTES, CallChecks, bytes_of, chords_of, tones_of


def asked(text):
    """What tones must answer, by another way than the program's."""
    if len(text) > 400:
        return [-22]
    chords = chords_of(text)
    if chords is None or len(chords) != 1:
        return [-71]
    had = sorted(tones_of(*chords[0]))
    return [len(had)] + had


class TonesTest(unittest.TestCase):
    def answers(self, text, answer):
        with self.subTest(text=text):
            self.assertEqual(tones(bytes_of(text)), answer)

    def refuses(self, texts, number):
        for text in texts:
            self.answers(text, [number])


class Ordinary(TonesTest):
    def test_each_kind_on_c(self):
        self.answers("C", [3, 0, 4, 7])
        self.answers("Cm", [3, 0, 3, 7])
        self.answers("Cdim", [3, 0, 3, 6])
        self.answers("Caug", [3, 0, 4, 8])
        self.answers("Csus2", [3, 0, 2, 7])
        self.answers("Csus4", [3, 0, 5, 7])
        self.answers("C5", [2, 0, 7])
        self.answers("C6", [4, 0, 4, 7, 9])
        self.answers("Cm6", [4, 0, 3, 7, 9])
        self.answers("C7", [4, 0, 4, 7, 10])
        self.answers("Cmaj7", [4, 0, 4, 7, 11])
        self.answers("Cm7", [4, 0, 3, 7, 10])
        self.answers("Cm7b5", [4, 0, 3, 6, 10])
        self.answers("Cdim7", [4, 0, 3, 6, 9])
        self.answers("Cadd9", [4, 0, 2, 4, 7])
        self.answers("C9", [5, 0, 2, 4, 7, 10])
        self.answers("Cm9", [5, 0, 2, 3, 7, 10])
        self.answers("C7sus4", [4, 0, 5, 7, 10])

    def test_each_letter(self):
        self.answers("C5", [2, 0, 7])
        self.answers("D5", [2, 2, 9])
        self.answers("E5", [2, 4, 11])
        self.answers("F5", [2, 0, 5])
        self.answers("G5", [2, 2, 7])
        self.answers("A5", [2, 4, 9])
        self.answers("B5", [2, 6, 11])

    def test_each_alteration(self):
        self.answers("Gbb", [3, 0, 5, 9])
        self.answers("Gb", [3, 1, 6, 10])
        self.answers("G", [3, 2, 7, 11])
        self.answers("G#", [3, 0, 3, 8])
        self.answers("G##", [3, 1, 4, 9])

    def test_bass_among_the_tones(self):
        self.answers("C/E", [3, 0, 4, 7])
        self.answers("D/F#", [3, 2, 6, 9])
        self.answers("Am7/G", [4, 0, 4, 7, 9])

    def test_bass_that_is_not_among_them(self):
        self.answers("C/D", [4, 0, 2, 4, 7])
        self.answers("F/G", [4, 0, 5, 7, 9])
        self.answers("Am/F#", [4, 0, 4, 6, 9])
        self.answers("C5/Bb", [3, 0, 7, 10])
        self.answers("C9/C#", [6, 0, 1, 2, 4, 7, 10])

    def test_every_root_kind_and_bass(self):
        for root, name, bass in itertools.product(NOTES, KINDS, [None] + list(NOTES)):
            text = root + name + ("/" + bass if bass else "")
            self.assertEqual(tones(bytes_of(text)), asked(text), text)


class Edges(TonesTest):
    def test_no_bytes(self):
        self.answers("", [-71])

    def test_several_chords(self):
        self.refuses(["C G", "C C", "Am F C", "C/E G", "C D/F#", "Bb5 B", "C " * 199 + "Cm"], -71)

    def test_length(self):
        for n, number in ((399, -71), (400, -71), (401, -22), (500, -22)):
            self.refuses(["C " * (n // 2) + "C" * (n % 2), "C" * n, "#" * n, " " * n, "\xff" * n], number)
        self.refuses(["C " * 199 + "C", "C " * 199 + "Cm"], -71)
        self.refuses(["C " * 200 + "C", "C " * 249 + "Cm"], -22)

    def test_bass_that_is_the_root_by_another_name(self):
        self.answers("C/B#", [3, 0, 4, 7])
        self.answers("G#7/Ab", [4, 0, 3, 6, 8])
        self.answers("B##m/Db", [3, 1, 4, 8])
        self.answers("E5/Fb", [2, 4, 11])
        self.answers("A##/Cb", [3, 3, 6, 11])

    def test_bass_of_the_roots_letter(self):
        self.answers("C/Cb", [4, 0, 4, 7, 11])
        self.answers("B#/B", [4, 0, 4, 7, 11])

    def test_bass_that_is_the_very_root(self):
        self.refuses(["C/C", "Bb/Bb", "F##m7/F##"], -71)

    def test_tones_that_pass_eleven(self):
        self.answers("B", [3, 3, 6, 11])
        self.answers("A", [3, 1, 4, 9])
        self.answers("Bmaj7", [4, 3, 6, 10, 11])
        self.answers("A#m9", [5, 0, 1, 5, 8, 10])
        self.answers("Bb9", [5, 0, 2, 5, 8, 10])

    def test_notes_that_pass_the_ends(self):
        self.answers("B##", [3, 1, 5, 8])
        self.answers("B#", [3, 0, 4, 7])
        self.answers("Cb", [3, 3, 6, 11])
        self.answers("Cbb", [3, 2, 5, 10])
        self.answers("Cbb5/B##", [3, 1, 5, 10])
        self.answers("B##5/Cbb", [3, 1, 8, 10])
        self.answers("G/Cbb", [4, 2, 7, 10, 11])
        self.answers("G/B##", [4, 1, 2, 7, 11])

    def test_b_behind_the_letter(self):
        self.answers("Bb5", [2, 5, 10])
        self.answers("Bbb5", [2, 4, 9])
        self.answers("Bm7b5", [4, 2, 5, 9, 11])
        self.refuses(["B b5", "b5", "Bbbb5"], -71)

    def test_blanks(self):
        self.refuses([" ", "  ", "C  G", " C", "C ", "C /G", "C/ G", "C m", "  C", "C  "], -71)


class Wrong(TonesTest):
    def test_no_song(self):
        self.refuses(
            ["x", "H", "c", "m", "7", "#", "/", "/C", "C/", "C//G", "C/G/E", "C/Gm", "CG", "C,G", "C\nG", "C###", "Cbbb",
             "C#b", "CM7", "Cmaj", "Csus", "C11", "\0", "C\0"],
            -71,
        )

    def test_high_bytes(self):
        for byte in range(128, 256):
            for t in ([byte], [67, byte], [byte, 67], [67, 32, byte], [67, 47, byte], [byte, 32, 67], [67, 32, 32, byte]):
                self.assertEqual(tones(t), [-71], t)

    def test_each_byte_in_each_place(self):
        places = ["{}", "{}m", "C{}", "C{}7", "Cm{}", "C/{}", "C{}G", "C/G{}", "C{}/G", "{}C", "Bb{}5"]
        for place, byte in itertools.product(places, range(256)):
            text = place.replace("{}", bytes([byte]).decode("latin-1"))
            self.answers(text, asked(text))

    def test_all_short_texts(self):
        for n in range(5):
            for signs in itertools.product("CB#b/ m75", repeat=n):
                text = "".join(signs)
                self.assertEqual(tones(bytes_of(text)), asked(text), text)

    def test_refused_just_where_read_tells_no_single_chord(self):
        for text in ["", "C", "C G", "C/C", "C  G", "Am7/G", "x", " ", "C " * 200, "C " * 201]:
            first = read(bytes_of(text))[0]
            answer = tones(bytes_of(text))
            self.assertEqual(answer[0] > 0, first == 1, text)
            self.assertEqual(answer == [-22], first == -22, text)


class Call(CallChecks, unittest.TestCase):
    FUNCTION = tones
    ARGUMENTS = [
        [bytes_of(text)]
        for text in ["", "C", "Cbbm9/B##", "C/B#", "Am F/A", "C/C", "C  G", "x", "C " * 200 + "C", "C " * 249 + "C"]
    ]


if __name__ == "__main__":
    unittest.main()
