"""Point 1: read."""

import itertools
import unittest

from chordgrip.chords import read
from helper import KINDS, NOTES, CallChecks, bytes_of, chords_of


def asked(text):
    """What read must answer, by another way than the program's."""
    if len(text) > 400:
        return [-22]
    chords = chords_of(text)
    if chords is None:
        return [-71]
    answer = [len(chords)]
    for root, name, bass in chords:
        answer += NOTES[root] + [KINDS[name]] + (NOTES[bass] if bass else [7, 0])
    return answer


class ReadTest(unittest.TestCase):
    def answers(self, text, answer):
        with self.subTest(text=text):
            self.assertEqual(read(bytes_of(text)), answer)

    def refuses(self, texts, number):
        for text in texts:
            self.answers(text, [number])


class Ordinary(ReadTest):
    def test_one_chord(self):
        self.answers("C", [1, 0, 0, 0, 7, 0])
        self.answers("F#m7", [1, 3, 1, 11, 7, 0])
        self.answers("Bbb7sus4", [1, 6, -2, 17, 7, 0])
        self.answers("D/F#", [1, 1, 0, 0, 3, 1])
        self.answers("Abmaj7/Ebb", [1, 5, -1, 10, 2, -2])

    def test_several_chords(self):
        self.answers("C C", [2, 0, 0, 0, 7, 0, 0, 0, 0, 7, 0])
        self.answers("Am F/A C G7", [4, 5, 0, 1, 7, 0, 3, 0, 0, 5, 0, 0, 0, 0, 7, 0, 4, 0, 9, 7, 0])
        self.answers("E##dim/Gbb B", [2, 2, 2, 2, 4, -2, 6, 0, 0, 7, 0])

    def test_each_kind(self):
        self.assertEqual(len(KINDS), 18)
        for name, kind in KINDS.items():
            self.answers("G" + name, [1, 4, 0, kind, 7, 0])
            self.answers("Eb" + name + "/A##", [1, 2, -1, kind, 5, 2])

    def test_each_kind_in_one_song(self):
        answer = [18]
        for kind in range(18):
            answer += [5, 1, kind, 0, -1]
        self.answers(" ".join("A#" + name + "/Cb" for name in KINDS), answer)

    def test_every_root_kind_and_bass(self):
        for (root, first), (name, kind) in itertools.product(NOTES.items(), KINDS.items()):
            self.assertEqual(read(bytes_of(root + name)), [1] + first + [kind, 7, 0])
            for bass, last in NOTES.items():
                answer = [-71] if bass == root else [1] + first + [kind] + last
                self.assertEqual(read(bytes_of(root + name + "/" + bass)), answer, (root, name, bass))


class Edges(ReadTest):
    def test_no_bytes(self):
        self.answers("", [0])

    def test_as_long_as_may_be(self):
        self.answers("C " * 199 + "Cm", [200] + [0, 0, 0, 7, 0] * 199 + [0, 0, 1, 7, 0])
        self.answers("Dm7b5/Ab " * 44 + "F/G#", [45] + [1, 0, 12, 5, -1] * 44 + [3, 0, 0, 4, 1])
        self.answers("C " * 199 + "C", [200] + [0, 0, 0, 7, 0] * 200)

    def test_no_song_as_long_as_may_be(self):
        self.refuses(["C " * 200, "C" * 400, " " * 400, "#" * 400, "/" * 400, "C" + "b" * 399], -71)

    def test_too_long(self):
        self.refuses(["C " * 200 + "C", "C " * 249 + "Cm"], -22)
        self.assertEqual(len("C " * 200 + "C"), 401)
        self.assertEqual(len("C " * 249 + "Cm"), 500)

    def test_too_long_is_told_ahead_of_no_song(self):
        self.refuses([sign * n for sign in "C #/x\0\xff" for n in (401, 402, 499, 500)], -22)

    def test_b_is_the_notes_where_it_stands_behind_the_letter(self):
        self.answers("Bb5", [1, 6, -1, 6, 7, 0])
        self.answers("B5", [1, 6, 0, 6, 7, 0])
        self.answers("Bbb5", [1, 6, -2, 6, 7, 0])
        self.answers("Bb", [1, 6, -1, 0, 7, 0])
        self.answers("B Bb5", [2, 6, 0, 0, 7, 0, 6, -1, 6, 7, 0])
        self.refuses(["B b5", "b5", "bb5", "Bbbb5"], -71)

    def test_m7b5(self):
        self.answers("Bm7b5", [1, 6, 0, 12, 7, 0])
        self.answers("Bbm7b5/B", [1, 6, -1, 12, 6, 0])
        self.answers("Bm7", [1, 6, 0, 11, 7, 0])
        self.refuses(["Bm7b", "Bm7bb5", "Bm75", "B7b5", "Bm7#5", "Bmb5", "Bm7b55", "Bm7 b5"], -71)

    def test_bass_that_is_the_root_by_another_name(self):
        self.answers("C/B#", [1, 0, 0, 0, 6, 1])
        self.answers("B##m/Db", [1, 6, 2, 1, 1, -1])
        self.answers("G#7/Ab", [1, 4, 1, 9, 5, -1])

    def test_bass_of_the_roots_letter(self):
        self.answers("C/Cb", [1, 0, 0, 0, 0, -1])
        self.answers("C#/C##", [1, 0, 1, 0, 0, 2])

    def test_bass_that_is_the_very_root(self):
        self.refuses(["C/C", "Bb/Bb", "F##m7/F##", "G C/C", "C/C G", "Ebbdim7/Ebb"], -71)

    def test_blanks(self):
        self.refuses([" ", "  ", "C  G", " C", "C ", "C G ", " C G", "C G  Am", "C /G", "C/ G", "C m", "C #"], -71)


class Wrong(ReadTest):
    def test_no_song(self):
        self.refuses(["x", "H", "m", "7", "#", "b", "/", "/C", "m/C", "#C", "CG", "C,G", "C\nG", "C\tG", "\0", "C\0"], -71)

    def test_almost_a_kind(self):
        names = [
            "M", "min", "maj", "di", "au", "sus", "sus1", "sus5", "4", "2", "8", "55", "65", "m5", "ma7", "maj", "maj9",
            "maj77", "m77", "dim5", "dim6", "dim77", "add", "add2", "add99", "m99", "97", "7sus", "7sus2", "sus47", "mm",
            "mmaj7", "augaug", "Dim", "DIM", "Maj7", "m7B5", "+", "0", "11", "13", "9sus4", "madd9", "m7b5b",
        ]
        self.refuses(["C" + name for name in names], -71)
        self.refuses(["Am C#" + name + "/G F" for name in names], -71)

    def test_alterations(self):
        signs = ["###", "bbb", "#b", "b#", "##b", "bb#", "#b#", "b##", "####", "bbbb"]
        self.refuses(["C" + sign for sign in signs], -71)
        self.refuses(["C" + sign + "m7" for sign in signs], -71)
        self.refuses(["C/G" + sign for sign in signs], -71)

    def test_bass(self):
        self.refuses(
            ["C/", "C/ ", "C//", "C//G", "C/G/", "C/G/E", "C/E/E", "C/H", "C/7", "C/#", "C/b", "C/g", "C/Gm", "C/m", "C/G7",
             "Cm7/", "C/5", "C/GE", "C/0", "/", "//", "/G", "C/\xff"],
            -71,
        )

    def test_kind_behind_the_bass(self):
        self.refuses(["C/G" + name for name in KINDS if name], -71)

    def test_small_letters(self):
        self.refuses([letter for letter in "cdefgab"], -71)
        self.refuses(["C/" + letter for letter in "cdefgab"], -71)
        self.refuses(["C am", "c#m", "bb", "eb7"], -71)

    def test_each_byte_in_each_place(self):
        places = ["{}", "{}m", "C{}", "C{}7", "Cm{}", "C/{}", "C{}G", "C/G{}", "C{}/G", "{}C", "Am {}", "Am C{} F", "Bb{}5"]
        for place, byte in itertools.product(places, range(256)):
            text = place.replace("{}", bytes([byte]).decode("latin-1"))
            self.answers(text, asked(text))

    def test_high_bytes(self):
        for byte in range(128, 256):
            for t in ([byte], [67, byte], [byte, 67], [67, 32, byte], [67, 47, byte], [byte, 32, 67]):
                self.assertEqual(read(t), [-71], t)

    def test_all_short_texts(self):
        for n in range(6):
            for signs in itertools.product("CB#b/ m75", repeat=n):
                text = "".join(signs)
                self.assertEqual(read(bytes_of(text)), asked(text), text)


class Call(CallChecks, unittest.TestCase):
    FUNCTION = read
    ARGUMENTS = [
        [bytes_of(text)]
        for text in ["", "C", "Am F/A Bbm7b5", "C/C", "C  G", "C " * 200 + "C", "C " * 249 + "C"]
    ]


if __name__ == "__main__":
    unittest.main()
