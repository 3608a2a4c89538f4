"""Point 48: readers."""

import unittest

from meridian.clients.readers import Reader
from meridian.clocks.spans import Span
from tests.clusters import guest_view

CUTS = ["m"]
KEYS = ["a", "b", "n"]
PHASES = ("new", "reading", "waiting", "ended")
NOW = Span(100, 110)
LATER = Span(900, 910)


def reader_in(phase):
    """Return a reader with the number 3 in a phase; its time is 110."""
    reader = Reader(3, KEYS, CUTS)
    steps = [lambda: reader.push(NOW), lambda: [reader.receive(("seen", 3, key, 7)) for key in KEYS],
             lambda: reader.push(LATER)]
    for step in steps[:PHASES.index(phase)]:
        step()
    return reader


class PushTest(unittest.TestCase):

    def test_a_new_reader(self):
        reader = Reader(0, ["a"], [])
        self.assertEqual((reader.phase, reader.time, reader.number, reader.got()), ("new", None, 0, []))

    def test_the_phases_in_order(self):
        for phase in PHASES:
            self.assertEqual(reader_in(phase).phase, phase)

    def test_the_look_time(self):
        for low, high, time in [(100, 110, 110), (-5, 5, 5), (-8, 2, 2), (-9, 1, 1), (-10, 0, 1), (-20, -10, 1), (0, 0, 1),
                                (10 ** 40, 10 ** 41, 10 ** 41)]:
            reader = Reader(2, ["a"], [])
            self.assertEqual(reader.push(Span(low, high)), [(0, ("look", 2, "a", time))])
            self.assertEqual((reader.time, reader.phase), (time, "reading"))

    def test_reading(self):
        reader = Reader(3, KEYS, CUTS)
        for number, (group, key) in enumerate([(0, "a"), (0, "b"), (1, "n")]):
            # The time is that of the first push, wherever the clock goes.
            for span in (NOW, LATER, Span(5, 6)):
                self.assertEqual(reader.push(span), [(group, ("look", 3, key, 110))])
                self.assertEqual((reader.phase, reader.time), ("reading", 110))
            reader.receive(("seen", 3, key, number))
        self.assertEqual((reader.phase, reader.got()), ("waiting", [("a", 0), ("b", 1), ("n", 2)]))

    def test_the_wait_at_the_end(self):
        reader = reader_in("waiting")
        for low in (100, 109, 110):
            self.assertEqual(reader.push(Span(low, low + 500)), [])
            self.assertEqual(reader.phase, "waiting")
        self.assertEqual(reader.push(Span(111, 111)), [])
        self.assertEqual((reader.phase, reader.time, reader.got()), ("ended", 110, [("a", 7), ("b", 7), ("n", 7)]))

    def test_ended(self):
        reader = reader_in("ended")
        before = guest_view(reader)
        for span in (NOW, LATER):
            self.assertEqual(reader.push(span), [])
        self.assertEqual(guest_view(reader), before)

    def test_what_is_handed_in_and_returned_may_be_changed(self):
        keys, cuts = ["a", "n"], ["m"]
        reader = Reader(3, keys, cuts)
        keys.clear()
        cuts.clear()
        reader.push(NOW).clear()
        reader.receive(("seen", 3, "a", 1))
        reader.got().clear()
        self.assertEqual((reader.got(), reader.push(NOW)), ([("a", 1)], [(1, ("look", 3, "n", 110))]))


class ReceiveTest(unittest.TestCase):

    def effect(self, reader, letter):
        before = guest_view(reader)
        self.assertIsNone(reader.receive(letter))
        after = guest_view(reader)
        return {word: after[word] for word in after if after[word] != before[word]}

    def test_each_letter_in_each_phase(self):
        letters = [("seen", 3, "a", 7), ("seen", 3, "b", 7), ("seen", 3, "n", 7), ("seen", 3, "m", 7), ("seen", 2, "a", 7),
                   ("seen", 4, "a", 7), ("value", 3, "a", 7, 1), ("look", 3, "a", 110), ("refuse", 3),
                   ("outcome", 3, 110), ("told", 3, 0), ("prepared", 3, 0, 5)]
        for phase in PHASES:
            for letter in letters:
                expected = {"got": [("a", 7)]} if (phase, letter) == ("reading", letters[0]) else {}
                self.assertEqual(self.effect(reader_in(phase), letter), expected, (phase, letter))

    def test_the_keys_in_order(self):
        reader = reader_in("reading")
        reader.receive(("seen", 3, "a", None))
        for letter in [("seen", 3, "a", 7), ("seen", 3, "n", 7), ("seen", 1, "b", 7)]:
            self.assertEqual(self.effect(reader, letter), {})
        self.assertEqual(self.effect(reader, ("seen", 3, "b", -4)), {"got": [("a", None), ("b", -4)]})
        self.assertEqual(self.effect(reader, ("seen", 3, "n", 0)), {"got": [("a", None), ("b", -4), ("n", 0)],
                                                                   "phase": "waiting"})

    def test_a_reader_with_the_number_zero(self):
        reader = Reader(0, ["a"], [])
        reader.push(NOW)
        self.assertEqual(self.effect(reader, ("seen", 0, "a", 5)), {"got": [("a", 5)], "phase": "waiting"})


if __name__ == "__main__":
    unittest.main()
