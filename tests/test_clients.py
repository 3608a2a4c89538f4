"""Points 46 and 47: clients."""

import unittest

from meridian.clients.clients import Client
from tests.clusters import guest_view

# Group 0 keeps the keys below m, group 1 those from m on, group 2 those from t on.
CUTS = ["m", "t"]
PROGRAM = [("add", "a", 1), ("put", "x", 2)]
PHASES = ("new", "reading", "preparing", "committing", "ended")
FAR = 10 ** 40


def client_in(phase, program=PROGRAM):
    """Return a client with the number 5 in a phase; it has read a = 3 in the term 4."""
    client = Client(5, program, CUTS)
    steps = [client.push, lambda: (client.receive(("value", 5, "a", 3, 4)), client.push()),
             lambda: [client.receive(("prepared", 5, group, 10 + group)) for group in (0, 2)],
             lambda: client.receive(("outcome", 5, 15))]
    for step in steps[:PHASES.index(phase)]:
        step()
    return client


class PushTest(unittest.TestCase):

    def push_twice(self, client, letters, phase):
        """Push two times; each push must return these letters."""
        for _ in range(2):
            self.assertEqual(client.push(), letters)
            self.assertEqual(client.phase, phase)

    def test_a_new_client(self):
        client = Client(7, PROGRAM, CUTS)
        self.assertEqual((client.phase, client.result, client.txn), ("new", None, 7))
        self.assertEqual((client.got(), client.prepared()), ([], []))

    def test_the_phases_in_order(self):
        for phase in PHASES:
            self.assertEqual(client_in(phase).phase, phase)

    def test_reading(self):
        client = Client(5, [("read", "b"), ("copy", "p", "a"), ("read", "a"), ("need", "c", 1), ("add", "b", 1),
                            ("equal", "q", None)], CUTS)
        self.push_twice(client, [(0, ("read", 5, "b", 0))], "reading")
        client.receive(("value", 5, "b", None, 8))
        self.assertEqual(client.got(), [("b", None)])
        self.push_twice(client, [(1, ("read", 5, "p", 0))], "reading")
        client.receive(("value", 5, "p", 2, 3))
        self.push_twice(client, [(0, ("read", 5, "c", 8))], "reading")
        client.receive(("value", 5, "c", 1, 8))
        self.push_twice(client, [(1, ("read", 5, "q", 3))], "reading")
        client.receive(("value", 5, "q", None, 3))
        self.assertEqual((client.got(), client.phase), ([("b", None), ("p", 2), ("c", 1), ("q", None)], "reading"))
        self.push_twice(client, [(0, ("prepare", 5, 8, 0, ("b", "c"), (("a", 2), ("b", 1)))),
                                 (1, ("prepare", 5, 3, 0, ("p", "q"), ()))], "preparing")

    def test_a_known_term_of_zero_is_known(self):
        client = Client(5, [("read", "b"), ("read", "a")], CUTS)
        client.push()
        client.receive(("value", 5, "b", 1, 0))
        client.push()
        client.receive(("value", 5, "a", 1, 2))
        self.assertEqual(client.got(), [("b", 1)])
        client.receive(("value", 5, "a", 1, 0))
        self.assertEqual(client.got(), [("b", 1), ("a", 1)])

    def test_a_program_that_reads_nothing(self):
        client = Client(FAR, [("put", "x", 2), ("read", "x"), ("put", "b", FAR), ("drop", "a"), ("add", "x", 1)], CUTS)
        self.push_twice(client, [(0, ("prepare", FAR, 0, 0, (), (("a", None), ("b", FAR)))),
                                 (2, ("prepare", FAR, 0, 0, (), (("x", 3),)))], "preparing")
        self.assertEqual(client.got(), [])

    def test_a_program_that_writes_nothing(self):
        client = Client(5, [("read", "s")], CUTS)
        self.push_twice(client, [(1, ("read", 5, "s", 0))], "reading")
        client.receive(("value", 5, "s", 6, 2))
        self.push_twice(client, [(1, ("prepare", 5, 2, 1, ("s",), ()))], "preparing")

    def test_a_program_that_gives_up_at_once(self):
        client = Client(5, [("put", "a", 1), ("need", "a", 2)], CUTS)
        self.push_twice(client, [], "ended")
        self.assertEqual((client.result, client.got()), (0, []))

    def test_a_program_that_gives_up_after_a_read(self):
        for value in (None, 4):
            client = Client(5, [("need", "a", 5), ("read", "b")], CUTS)
            client.push()
            client.receive(("value", 5, "a", value, 4))
            self.assertEqual((client.phase, client.result), ("reading", None))
            self.push_twice(client, [], "ended")
            self.assertEqual((client.result, client.got()), (0, [("a", value)]))

    def test_parts_and_lead(self):
        # The groups of keys that are only read are parts, too, and so are those of keys that are only written.
        client = Client(5, [("read", "z"), ("read", "y"), ("put", "n", 1), ("put", "m", 2)], CUTS)
        for key in ("z", "y"):
            client.push()
            client.receive(("value", 5, key, None, 6))
        self.push_twice(client, [(1, ("prepare", 5, 0, 1, (), (("m", 2), ("n", 1)))),
                                 (2, ("prepare", 5, 6, 1, ("y", "z"), ()))], "preparing")

    def test_edges_of_the_groups(self):
        client = Client(5, [("put", key, 1) for key in ("m", "lz", "t", "m.", "s9")], CUTS)
        self.assertEqual(client.push(), [
            (0, ("prepare", 5, 0, 0, (), (("lz", 1),))),
            (1, ("prepare", 5, 0, 0, (), (("m", 1), ("m.", 1), ("s9", 1)))),
            (2, ("prepare", 5, 0, 0, (), (("t", 1),)))])

    def test_preparing(self):
        client = client_in("preparing")
        first, second = [(0, ("prepare", 5, 4, 0, ("a",), (("a", 4),))), (2, ("prepare", 5, 0, 0, (), (("x", 2),)))]
        self.push_twice(client, [first, second], "preparing")
        client.receive(("prepared", 5, 0, 10))
        self.assertEqual(client.prepared(), [(0, 10)])
        self.push_twice(client, [second], "preparing")
        client.receive(("prepared", 5, 2, 9))
        self.assertEqual((client.prepared(), client.phase), ([(0, 10), (2, 9)], "committing"))
        other = client_in("preparing")
        other.receive(("prepared", 5, 2, 9))
        self.push_twice(other, [first], "preparing")
        self.assertEqual(other.prepared(), [(2, 9)])
        other.receive(("prepared", 5, 0, 10))
        self.assertEqual(other.prepared(), [(0, 10), (2, 9)])

    def test_committing(self):
        self.push_twice(client_in("committing"), [(0, ("commit", 5, ((0, 10), (2, 12))))], "committing")
        client = Client(5, [("put", "z", 1)], CUTS)
        client.push()
        client.receive(("prepared", 5, 2, FAR))
        self.push_twice(client, [(2, ("commit", 5, ((2, FAR),)))], "committing")

    def test_ended(self):
        client = client_in("ended")
        self.assertEqual((client.result, client.got(), client.prepared()), (15, [("a", 3)], [(0, 10), (2, 12)]))
        self.push_twice(client, [], "ended")

    def test_what_is_handed_in_and_returned_may_be_changed(self):
        program, cuts = [("read", "a"), ("read", "n")], ["m"]
        client = Client(5, program, cuts)
        program.clear()
        cuts.clear()
        client.push().clear()
        client.receive(("value", 5, "a", 1, 1))
        client.got().clear()
        self.assertEqual(client.push(), [(1, ("read", 5, "n", 0))])
        client.receive(("value", 5, "n", 1, 1))
        client.push()
        client.receive(("prepared", 5, 0, 10))
        client.prepared().clear()
        self.assertEqual((client.got(), client.prepared()), ([("a", 1), ("n", 1)], [(0, 10)]))


class ReceiveTest(unittest.TestCase):

    def effect(self, client, letter):
        """Return what a letter changes."""
        before = guest_view(client)
        self.assertIsNone(client.receive(letter))
        after = guest_view(client)
        return {word: after[word] for word in after if after[word] != before[word]}

    def test_each_letter_in_each_phase(self):
        ended = {"phase": "ended", "result": 0}
        effects = {
            ("reading", ("value", 5, "a", 3, 4)): {"got": [("a", 3)]},
            ("reading", ("value", 5, "a", None, 1)): {"got": [("a", None)]},
            ("reading", ("refuse", 5)): ended,
            ("preparing", ("refuse", 5)): ended,
            ("preparing", ("prepared", 5, 2, 20)): {"prepared": [(2, 20)]},
            ("committing", ("outcome", 5, 0)): ended,
            ("committing", ("outcome", 5, 20)): {"phase": "ended", "result": 20},
        }
        others = [("value", 5, "b", 3, 4), ("value", 5, "x", 3, 4), ("prepared", 5, 1, 20), ("prepared", 5, 3, 20),
                  ("told", 5, 20), ("told", 5, 0), ("query", 5), ("read", 5, "a", 4), ("look", 5, "a", 20),
                  ("seen", 5, "a", 3), ("commit", 5, ((0, 10),)), ("prepare", 5, 4, 0, ("a",), ())]
        letters = [letter for _, letter in effects] + others
        letters += [letter[:1] + (number,) + letter[2:] for letter in letters for number in (4, 6, 0)]
        for phase in PHASES:
            for letter in letters:
                self.assertEqual(self.effect(client_in(phase), letter), effects.get((phase, letter), {}), (phase, letter))

    def test_a_value_comes_once(self):
        client = client_in("reading")
        self.assertEqual(self.effect(client, ("value", 5, "a", 3, 4)), {"got": [("a", 3)]})
        self.assertEqual(self.effect(client, ("value", 5, "a", 9, 4)), {})
        client = client_in("reading", [("read", "a"), ("read", "b")])
        client.receive(("value", 5, "a", 3, 4))
        self.assertEqual(self.effect(client, ("value", 5, "a", 9, 4)), {})

    def test_known_terms(self):
        program = [("read", "a"), ("read", "b"), ("read", "n"), ("read", "c")]
        client = Client(5, program, CUTS)
        client.push()
        client.receive(("value", 5, "a", 1, 4))
        for term in (3, 5, 0):
            self.assertEqual(self.effect(client, ("value", 5, "b", 2, term)), {})
        self.assertEqual(self.effect(client, ("value", 5, "b", 2, 4)), {"got": [("a", 1), ("b", 2)]})
        # Another group has a term of its own.
        client.receive(("value", 5, "n", 3, 9))
        self.assertEqual(self.effect(client, ("value", 5, "c", 4, 9)), {})
        client.receive(("value", 5, "c", 4, 4))
        self.assertEqual([value for _, value in client.got()], [1, 2, 3, 4])

    def test_a_value_before_the_program_can_ask_for_it(self):
        client = client_in("reading", [("put", "b", 1), ("read", "b"), ("read", "a")])
        self.assertEqual(self.effect(client, ("value", 5, "b", 3, 4)), {})
        self.assertEqual(self.effect(client, ("value", 5, "a", 3, 4)), {"got": [("a", 3)]})

    def test_no_value_is_taken_after_the_program_has_given_up(self):
        client = client_in("reading", [("need", "a", 5), ("read", "b")])
        client.receive(("value", 5, "a", 3, 4))
        self.assertEqual(self.effect(client, ("value", 5, "b", 3, 4)), {})
        self.assertEqual(self.effect(client, ("refuse", 5)), {"phase": "ended", "result": 0})

    def test_a_second_prepared_of_a_group(self):
        client = client_in("preparing")
        client.receive(("prepared", 5, 0, 10))
        for time in (9, 10, 11):
            self.assertEqual(self.effect(client, ("prepared", 5, 0, time)), {})
        self.assertEqual(self.effect(client, ("refuse", 5)), {"phase": "ended", "result": 0})
        self.assertEqual(client.prepared(), [(0, 10)])

    def test_the_last_prepared(self):
        client = client_in("preparing")
        client.receive(("prepared", 5, 0, 10))
        self.assertEqual(self.effect(client, ("prepared", 5, 2, 1)), {"phase": "committing", "prepared": [(0, 10), (2, 1)]})

    def test_an_outcome_that_comes_too_early(self):
        for phase in ("new", "reading", "preparing"):
            self.assertEqual(self.effect(client_in(phase), ("outcome", 5, 15)), {})


if __name__ == "__main__":
    unittest.main()
