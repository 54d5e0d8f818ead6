"""The program's calls: each takes whole numbers and lists of them, and answers a list of whole numbers."""

MOST_BYTES = 400
MOST_LETTERS = 6
MOST_HALF = 11
MOST_STRINGS = 6
HIGHEST_PITCH = 100

# The refusals' numbers.
NOT_AS_TOLD = -22
NO_NOTE = -34
NO_GRIP = -61
NO_SONG = -71

BLANK = 32
SLASH = 47
SHARP = 35
FLAT = 98

# A name's place in its table is its number; alterations count from the lowest on.
LETTERS = ("C", "D", "E", "F", "G", "A", "B")
ALTERATIONS = ("bb", "b", "", "#", "##")
LOWEST_ALTERATION = -2
HIGHEST_ALTERATION = 2
KINDS = (
    "", "m", "dim", "aug", "sus2", "sus4", "5", "6", "m6",
    "7", "maj7", "m7", "m7b5", "dim7", "add9", "9", "m9", "7sus4",
)

# Of all alterations that give a moved note its tone, the one from here on, within twelve, is meant.
LOWEST_MOVED = -5

ALL_TONES = 12
LETTER_TONES = (0, 2, 4, 5, 7, 9, 11)
# How far each kind's tones lie above the root, in the order of the kinds' names.
KIND_TONES = (
    (0, 4, 7), (0, 3, 7), (0, 3, 6), (0, 4, 8), (0, 2, 7), (0, 5, 7), (0, 7), (0, 4, 7, 9), (0, 3, 7, 9),
    (0, 4, 7, 10), (0, 4, 7, 11), (0, 3, 7, 10), (0, 3, 6, 10), (0, 3, 6, 9), (0, 2, 4, 7), (0, 2, 4, 7, 10),
    (0, 2, 3, 7, 10), (0, 5, 7, 10),
)

# No note has this letter, so it can't be taken for a bass that is the root.
NO_BASS = (7, 0)

LAST_POSITION = 9
FRETS_AT_A_POSITION = 4
MOST_SILENT = 2
MOST_FINGERS = 4

# The numbers that tell a string in a grip; at a fret it is the fret and OPEN_STRING.
SILENT_STRING = 0
OPEN_STRING = 1


def read(t):
    """How many chords the song t has, and five numbers for each; or a refusal."""
    if len(t) > MOST_BYTES:
        return [NOT_AS_TOLD]
    chords = read_song(t)
    if chords is None:
        return [NO_SONG]
    answer = [len(chords)]
    for chord in chords:
        answer.extend(chord)
    return answer


def tones(t):
    """How many tones the chord t has, and these, rising; or a refusal."""
    if len(t) > MOST_BYTES:
        return [NOT_AS_TOLD]
    # No chord has a blank in it, so whatever reads as a chord is just one.
    chord = read_chord(t)
    if chord is None:
        return [NO_SONG]
    had = chord_tones(chord)
    return [len(had)] + had


def move(letters, half, t):
    """How many bytes the song t, moved, has, and these; or a refusal."""
    if len(t) > MOST_BYTES or letters > MOST_LETTERS or half > MOST_HALF:
        return [NOT_AS_TOLD]
    chords = read_song(t)
    if chords is None:
        return [NO_SONG]
    moved = [move_chord(chord, letters, half) for chord in chords]
    for chord in moved:
        if not can_be_written(chord):
            return [NO_NOTE]
    song = write_song(moved)
    return [len(song)] + song


def grip(t, tuning):
    """The lowest position with a good grip of the chord t, and a number for each string of the best; or a refusal."""
    if len(t) > MOST_BYTES or not strings_as_told(tuning):
        return [NOT_AS_TOLD]
    chord = read_chord(t)
    if chord is None:
        return [NO_SONG]
    had = chord_tones(chord)
    bass = bass_tone(chord)
    for position in range(LAST_POSITION + 1):
        best = best_grip(position, tuning, had, bass)
        if best is not None:
            return [position] + best
    return [NO_GRIP]


def read_song(t):
    """The song's chords, five numbers each, or None if t is no song."""
    chords = []
    # Splitting no bytes would give one empty chord, but they are a song of none.
    if len(t) == 0:
        return chords
    for part in split_at(BLANK, t):
        chord = read_chord(part)
        if chord is None:
            return None
        chords.append(chord)
    return chords


def read_chord(part):
    """Root's letter and alteration, kind, bass's letter and alteration, or None if part is no chord."""
    sides = split_at(SLASH, part)
    if len(sides) > 2:
        return None
    end = note_end(sides[0])
    root = read_note(sides[0][:end])
    kind = place_of(sides[0][end:], KINDS)
    bass = NO_BASS if len(sides) == 1 else read_note(sides[1])
    if root is None or kind is None or bass is None or bass == root:
        return None
    return [root[0], root[1], kind, bass[0], bass[1]]


def note_end(part):
    """Where the note at the part's beginning ends."""
    # No kind's name begins with # or b, so all of them behind the letter are the note's.
    end = 1
    while end < len(part) and part[end] in (SHARP, FLAT):
        end += 1
    return end


def read_note(part):
    """The note's letter and alteration, or None if part is no note."""
    letter = place_of(part[:1], LETTERS)
    alteration = place_of(part[1:], ALTERATIONS)
    if letter is None or alteration is None:
        return None
    return (letter, alteration + LOWEST_ALTERATION)


def place_of(part, names):
    """The place among the names of the one that part's bytes spell, or None."""
    for place, name in enumerate(names):
        if [ord(sign) for sign in name] == part:
            return place
    return None


def split_at(mark, t):
    """The parts of t between the bytes that are the mark: one more than there are marks."""
    parts = []
    part = []
    for byte in t:
        if byte == mark:
            parts.append(part)
            part = []
        else:
            part.append(byte)
    parts.append(part)
    return parts


def chord_tones(chord):
    """The tones that the chord has, its bass's among them, rising."""
    root = note_tone(chord[:2])
    had = [(root + step) % ALL_TONES for step in KIND_TONES[chord[2]]]
    had.append(bass_tone(chord))
    # The bass's tone may be there already, and is then not to be told twice.
    return [tone for tone in range(ALL_TONES) if tone in had]


def bass_tone(chord):
    """The tone of the chord's bass, which is the root if none is told."""
    if chord[3] == NO_BASS[0]:
        return note_tone(chord[:2])
    return note_tone(chord[3:])


def note_tone(note):
    """The tone of the note, told as letter and alteration."""
    return (LETTER_TONES[note[0]] + note[1]) % ALL_TONES


def move_chord(chord, letters, half):
    """The chord moved, with alterations that may be beyond those that can be written."""
    bass = chord[3:] if chord[3] == NO_BASS[0] else move_note(chord[3:], letters, half)
    return move_note(chord[:2], letters, half) + [chord[2]] + bass


def move_note(note, letters, half):
    """The note's letter and alteration, moved."""
    letter = (note[0] + letters) % len(LETTERS)
    alteration = note_tone(note) + half - LETTER_TONES[letter]
    return [letter, (alteration - LOWEST_MOVED) % ALL_TONES + LOWEST_MOVED]


def can_be_written(chord):
    """Whether there are signs for the alterations of the chord's root and bass."""
    lower = min(chord[1], chord[4])
    higher = max(chord[1], chord[4])
    return lower >= LOWEST_ALTERATION and higher <= HIGHEST_ALTERATION


def write_song(chords):
    """The bytes of the chords with one blank between."""
    song = []
    for chord in chords:
        if len(song) > 0:
            song.append(BLANK)
        song.extend([ord(sign) for sign in chord_name(chord)])
    return song


def chord_name(chord):
    """The chord as it is written."""
    name = note_name(chord[:2]) + KINDS[chord[2]]
    if chord[3] == NO_BASS[0]:
        return name
    return name + "/" + note_name(chord[3:])


def note_name(note):
    """The note as it is written."""
    return LETTERS[note[0]] + ALTERATIONS[note[1] - LOWEST_ALTERATION]


def strings_as_told(tuning):
    """Whether there are as many strings as there may be, each with a pitch that it may have."""
    return 1 <= len(tuning) <= MOST_STRINGS and max(tuning) <= HIGHEST_PITCH


def best_grip(position, tuning, had, bass):
    """The best good grip at the position, a number for each string, or None if there is none."""
    good = [numbers for numbers in grips_at(position, tuning, had) if is_good(numbers, tuning, had, bass)]
    return min(good, key=worth, default=None)


def grips_at(position, tuning, had):
    """All grips at the position that leave no more strings silent than a good one may."""
    grips = [[]]
    for pitch in tuning:
        longer = []
        for number in string_numbers(position, pitch, had):
            longer.extend([numbers + [number] for numbers in grips])
        # Dropped here and not at the end, lest the list grow far longer than it needs to.
        grips = [numbers for numbers in longer if numbers.count(SILENT_STRING) <= MOST_SILENT]
    return grips


def string_numbers(position, pitch, had):
    """The numbers that a string of the pitch may have in a grip at the position."""
    frets = [0] + [position + further for further in range(1, FRETS_AT_A_POSITION + 1)]
    return [SILENT_STRING] + [fret + OPEN_STRING for fret in frets if (pitch + fret) % ALL_TONES in had]


def is_good(numbers, tuning, had, bass):
    """Whether the grip sounds each tone, the bass's lowest, and takes no more fingers than there are."""
    pitches = sounding_pitches(numbers, tuning)
    heard = [pitch % ALL_TONES for pitch in pitches]
    if set(heard) != set(had):
        return False
    return min(pitches) % ALL_TONES == bass and fingers(numbers) <= MOST_FINGERS


def sounding_pitches(numbers, tuning):
    """The pitches of the strings that are not silent."""
    return [
        pitch + number - OPEN_STRING
        for pitch, number in zip(tuning, numbers)
        if number != SILENT_STRING
    ]


def fingers(numbers):
    """How many fingers the grip takes."""
    at_frets = [number for number in numbers if number > OPEN_STRING]
    if len(at_frets) == 0:
        return 0
    lowest = min(at_frets)
    places = [place for place, number in enumerate(numbers) if number == lowest]
    # A finger that lies across the strings would stop an open one under it.
    if OPEN_STRING in numbers[places[0]:places[-1]]:
        return len(at_frets)
    return len(at_frets) - len(places) + 1


def worth(numbers):
    """What is less for the better of two grips."""
    return [numbers.count(SILENT_STRING), fingers(numbers), sum(numbers)] + numbers
