"""Points 16 and 17: notes, and what they say in order."""

import unittest

from meridian.errors import BadArgument, BadBytes, Refused
from meridian.storage.notes import decode_note, encode_note, replay
from meridian.storage.records import encode_record
from meridian.wire.varints import encode_number
from tests.helpers import NEW_STATE, dice, error_of, plain_change, some_note, some_record

FAR = 10 ** 59 + 3
X, Y, Z = ("floor", 1), ("decide", 2, 0), ("prepare", 1, 5, 0, ("a",), (("b", -1),))
WRITTEN = [
    (("ballot", 3, -1), [1, 3, 0]),
    (("ballot", 0, 0), [1, 0, 1]),
    (("ballot", 300, 127), [1, 172, 2, 128, 1]),
    (("promise", 0), [2, 0]),
    (("promise", 300), [2, 172, 2]),
    (("entry", 0, 1, X), [3, 0, 1, 1, 1]),
    (("entry", 128, 300, Y), [3, 128, 1, 172, 2, 3, 2, 0]),
    (("entry", 2, 1, Z), [3, 2, 1, 2, 1, 5, 0, 1, 1, 0, 1, 1, 1, 1, 1]),
]


def far_note(source):
    """Return a note whose numbers are often at the ends of their ranges."""
    def pick(least):
        return source.choice([least, least + 1, 126, 127, 128, FAR])

    return source.choice([("ballot", pick(0), pick(-1)), ("promise", pick(0)),
                          ("entry", pick(0), pick(1), some_record(source))])


class EncodingTest(unittest.TestCase):

    def test_written_out(self):
        for note, block in WRITTEN:
            self.assertEqual(encode_note(note), block)
            self.assertEqual(decode_note(block), note)

    def test_any_notes_there_and_back(self):
        source = dice(16)
        for _ in range(400):
            note = far_note(source)
            block = encode_note(note)
            if note[0] == "ballot":
                wanted = [1] + encode_number(note[1]) + encode_number(note[2] + 1)
            elif note[0] == "promise":
                wanted = [2] + encode_number(note[1])
            else:
                wanted = [3] + encode_number(note[1]) + encode_number(note[2]) + encode_record(note[3])
            self.assertEqual(block, wanted)
            self.assertEqual(decode_note(block), note)
            self.assertIsInstance(decode_note(block), tuple)
            self.assertEqual(block, wanted)

    def test_numbers_below_their_ranges(self):
        for number in (-1, -2, -128, -FAR):
            for note in (("ballot", number, 0), ("ballot", 0, number - 1), ("ballot", 5, -2), ("promise", number),
                         ("entry", number, 1, X), ("entry", 0, number, X), ("entry", 0, 0, X), ("entry", 3, 0, Z)):
                self.assertIs(error_of(encode_note, note), BadArgument)
        self.assertIs(error_of(decode_note, [3, 0, 0, 1, 1]), BadBytes)
        self.assertIs(error_of(decode_note, [3, 5, 0, 3, 2, 0]), BadBytes)

    def test_records_that_cannot_be_encoded(self):
        for record in (("floor", 0), ("decide", 0, 1), ("done", 1, -1), ("prepare", 1, 1, 0, ("b", "a"), ()),
                       ("prepare", 1, 1, 0, (), (("", 1),)), ("prepare", 1, 1, -1, (), ()),
                       ("prepare", 1, 1, 0, ("A",), ())):
            self.assertIs(error_of(encode_note, ("entry", 0, 1, record)), BadArgument)
            self.assertIs(error_of(encode_note, ("entry", 7, 9, record)), BadArgument)

    def test_cut_blocks_and_one_byte_more(self):
        source = dice(161)
        for note in [note for note, _ in WRITTEN] + [far_note(source) for _ in range(100)]:
            block = encode_note(note)
            for cut in range(len(block)):
                self.assertIs(error_of(decode_note, block[:cut]), BadBytes)
            for byte in (0, 1, 127, 128, 255):
                self.assertIs(error_of(decode_note, block + [byte]), BadBytes)

    def test_other_kinds(self):
        for byte in [0] + list(range(4, 256)):
            for rest in ([], [1], [1, 1], [0, 1, 1, 1]):
                self.assertIs(error_of(decode_note, [byte] + rest), BadBytes)

    def test_blocks_that_are_no_notes(self):
        for block in ([], [1, 1], [1, 128, 0, 1], [1, 1, 128, 0], [2, 128, 0], [2, 1, 1], [3, 1, 1], [3, 128, 0, 1, 1, 1],
                      [3, 0, 129, 0, 1, 1], [3, 0, 1, 1, 0], [3, 0, 1, 5, 1], [3, 0, 1, 3, 0, 1],
                      [3, 0, 1, 2, 1, 1, 0, 2, 1, 1, 1, 0, 0]):
            self.assertIs(error_of(decode_note, block), BadBytes)


class ReplayTest(unittest.TestCase):

    def test_no_notes(self):
        self.assertEqual(replay([]), (0, -1, 0, []))

    def test_ballots(self):
        def ballots(*pairs):
            return [("ballot", term, vote) for term, vote in pairs]

        for pairs in ([(0, -1)], [(0, 2)], [(1, -1)], [(1, 2), (1, 2)], [(1, -1), (1, 2)], [(1, 2), (2, -1)],
                      [(1, 2), (2, 1)], [(1, 0), (5, 0), (6, -1), (6, -1), (6, 3)], [(0, 0), (0, 0)], [(FAR, 1)]):
            self.assertEqual(replay(ballots(*pairs)), pairs[-1] + (0, []))
        for pairs in ([(1, -1), (0, -1)], [(2, 1), (1, 1)], [(1, 0), (1, 1)], [(1, 0), (1, -1)], [(0, 0), (0, -1)],
                      [(3, 2), (3, 1)], [(FAR, -1), (FAR - 1, 0)], [(1, 1), (1, 1), (1, 2)]):
            self.assertIs(error_of(replay, ballots(*pairs)), Refused)

    def test_promises(self):
        for times, until in [((0,), 0), ((4,), 4), ((4, 3), 4), ((4, 4), 4), ((4, 5), 5), ((1, 0, FAR, 7), FAR)]:
            self.assertEqual(replay([("promise", time) for time in times]), (0, -1, until, []))

    def test_entries(self):
        start = [("ballot", 3, -1), ("entry", 0, 1, X), ("entry", 1, 2, Y)]
        log = [(1, X), (2, Y)]
        for index, term, entries in [(2, 2, log + [(2, Z)]), (2, 3, log + [(3, Z)]), (1, 1, [(1, X), (1, Z)]),
                                     (1, 2, [(1, X), (2, Z)]), (1, 3, [(1, X), (3, Z)]), (0, 1, [(1, Z)]),
                                     (0, 3, [(3, Z)])]:
            self.assertEqual(replay(start + [("entry", index, term, Z)]), (3, -1, 0, entries))
        for index, term in [(3, 2), (3, 3), (4, 3), (FAR, 3), (2, 1), (2, 4), (1, 4), (0, 4), (0, FAR)]:
            self.assertIs(error_of(replay, start + [("entry", index, term, Z)]), Refused)
        self.assertIs(error_of(replay, [("entry", 0, 1, X)]), Refused)

    def test_an_equal_entry_cuts_the_log_too(self):
        notes = [("ballot", 1, -1), ("entry", 0, 1, X), ("entry", 1, 1, Y), ("entry", 0, 1, X)]
        self.assertEqual(replay(notes), (1, -1, 0, [(1, X)]))

    def test_any_notes_in_any_order(self):
        source = dice(17)
        seen = {"taken": 0, "refused": 0}
        for _ in range(500):
            state, notes = NEW_STATE, []
            for _ in range(12):
                note = some_note(source)
                after = plain_change(state, note)
                if after is None:
                    self.assertIs(error_of(replay, notes + [note]), Refused)
                    seen["refused"] += 1
                else:
                    state, notes = after, notes + [note]
                    seen["taken"] += 1
                given = list(notes)
                self.assertEqual(replay(given), state)
                self.assertEqual(given, notes)
        self.assertTrue(min(seen.values()) > 500)

    def test_the_list_of_entries_is_new(self):
        notes = [("ballot", 1, -1), ("entry", 0, 1, X)]
        found = replay(notes)
        self.assertIsInstance(found, tuple)
        found[3].append(1)
        self.assertEqual(replay(notes), (1, -1, 0, [(1, X)]))
        self.assertEqual(replay([]), (0, -1, 0, []))


if __name__ == "__main__":
    unittest.main()
