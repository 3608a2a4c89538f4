"""Point 54: histories and their judgement."""

import itertools
import unittest

from meridian.errors import BadArgument
from meridian.world.judge import find_order, is_consistent, replay, respects, seen_by, time_order, times_agree
from tests.helpers import dice, error_of

W = ("txn", 1, 1, 3, 5, (), (("a", 1),))
R = ("reader", 0, 4, 6, 9, (("a", 1),), ())
E = ("txn", 2, 2, None, 4, (("a", None),), (("b", 2),))
FAR = 10 ** 40


def txn(number, time, got=(), writes=(), begin=1, end=99):
    return ("txn", number, begin, end, time, tuple(got), tuple(writes))


def reader(number, time, got=(), begin=1, end=99):
    return ("reader", number, begin, end, time, tuple(got), ())


def plain_replay(deeds, order):
    rows = {}
    for index in order:
        for key, value in deeds[index][5]:
            if rows.get(key) != value:
                return None
        for key, value in deeds[index][6]:
            rows[key] = value
    return {key: value for key, value in rows.items() if value is not None}


def plain_respects(deeds, order):
    """Say it of all pairs, with the words of the document."""
    for first in order:
        for second in order:
            if order.index(first) < order.index(second):
                end, begin = deeds[second][3], deeds[first][2]
                if end is not None and end < begin:
                    return False
    return True


def plain_times_agree(deeds):
    return not [1 for deed in deeds for other in deeds if deed[3] is not None and deed[3] < other[2] and
                not deed[4] < other[4]]


def some_deed(source, number):
    begin = source.randrange(1, 8)
    end = source.choice([None, begin, begin + 1, begin + source.randrange(5)])
    got = tuple((key, source.choice([None, None, 1])) for key in source.sample("ab", source.randrange(2)))
    if source.random() < 0.4:
        return reader(number, source.randrange(1, 6), got, begin, end)
    writes = tuple((key, source.choice([None, 1])) for key in sorted(source.sample("ab", source.randrange(3))))
    return txn(number, source.randrange(1, 6), got, writes, begin, end)


def some_histories(many=400, most=5):
    source = dice(5400)
    return [[some_deed(source, number) for number in range(source.randrange(most + 1))] for _ in range(many)]


class TimeOrderTest(unittest.TestCase):

    def test_by_time(self):
        self.assertEqual(time_order([]), [])
        self.assertEqual(time_order([txn(1, FAR), reader(0, 3), txn(2, 1)]), [2, 1, 0])

    def test_equal_times(self):
        deeds = [reader(1, 5), txn(9, 5), reader(0, 5), txn(2, 5), txn(4, 4), reader(2, 4)]
        self.assertEqual(time_order(deeds), [4, 5, 1, 3, 0, 2])


class ReplayTest(unittest.TestCase):

    def test_right_values(self):
        deeds = [txn(1, 1, [("a", None)], [("a", 1), ("b", 2)]), txn(2, 2, [("a", 1), ("c", None)], [("a", None)]),
                 reader(0, 3, [("a", None), ("b", 2)]), txn(3, 4, [], [("b", 0)]), reader(1, 5, [("b", 0)])]
        self.assertEqual(replay(deeds, [0, 1, 2, 3, 4]), {"b": 0})
        self.assertEqual(replay(deeds, [0]), {"a": 1, "b": 2})
        self.assertEqual(replay(deeds, []), {})
        self.assertEqual(replay(deeds, [0, 3, 1]), {"b": 0})

    def test_wrong_values(self):
        deeds = [txn(1, 1, [], [("a", 1)]), txn(2, 2, [("a", 2)]), reader(0, 3, [("a", None)]), reader(0, 3, [("a", 0)]),
                 reader(0, 3, [("b", None), ("a", 3)]), txn(3, 4, [], [("a", None)]), reader(2, 5, [("a", 1)])]
        for order in [[0, 1], [0, 2], [3], [0, 3], [0, 4], [0, 5, 6], [6, 0], [1]]:
            self.assertIsNone(replay(deeds, order))
        for order in [[2, 0], [0, 6], [0, 5, 2]]:
            self.assertIsNotNone(replay(deeds, order))

    def test_reads_come_before_writes(self):
        self.assertEqual(replay([txn(1, 1, [("a", None)], [("a", 1)])], [0]), {"a": 1})
        self.assertIsNone(replay([txn(1, 1, [("a", 1)], [("a", 1)])], [0]))

    def test_the_rows_are_new(self):
        deeds = [txn(1, 1, [], [("a", 1)])]
        replay(deeds, [0]).clear()
        self.assertEqual(replay(deeds, [0]), {"a": 1})


class RealTimeTest(unittest.TestCase):

    def test_respects(self):
        deeds = [txn(1, 1, begin=1, end=4), txn(2, 2, begin=5, end=6), txn(3, 3, begin=4, end=None), reader(0, 4, begin=7, end=7)]
        for order, expected in [([], True), ([0, 1], True), ([1, 0], False), ([2, 0], True), ([0, 2], True), ([2, 1, 0], False),
                                ([3, 2], True), ([2, 3], True), ([3, 1], False), ([3, 0], False), ([0, 2, 1, 3], True),
                                ([2, 0, 1, 3], True), ([0, 3, 1], False), ([1, 2, 0], False)]:
            self.assertIs(respects(deeds, order), expected, order)

    def test_times_agree(self):
        for end, begin, first, second, expected in [
                (4, 5, 7, 8, True), (4, 5, 8, 8, False), (4, 5, 9, 8, False), (5, 5, 9, 8, True), (6, 5, 8, 8, True),
                (None, 5, 9, 8, True), (1, FAR, FAR, FAR, False), (1, FAR, FAR, FAR + 1, True)]:
            deeds = [txn(1, first, begin=1, end=end), reader(0, second, begin=begin, end=None)]
            self.assertIs(times_agree(deeds), expected)
            self.assertIs(times_agree(deeds[::-1]), expected)
            self.assertIs(times_agree([txn(7, 1, begin=1, end=FAR)] + deeds), expected)
        self.assertIs(times_agree([]), True)

    def test_is_consistent(self):
        good = [txn(1, 1, [], [("a", 1)], 1, 2), reader(0, 2, [("a", 1)], 3, 4)]
        self.assertIs(is_consistent(good), True)
        self.assertIs(is_consistent([]), True)
        # A right replay with times that do not agree, and the other way round.
        self.assertIs(is_consistent([txn(1, 1, [], [("a", 1)], 5, 6), reader(0, 2, [("a", 1)], 3, 4)]), False)
        self.assertIs(is_consistent([txn(1, 1, [], [("a", 1)], 1, 2), reader(0, 2, [("a", 2)], 3, 4)]), False)

    def test_drawn_histories(self):
        seen = set()
        for deeds in some_histories():
            for order in itertools.permutations(range(len(deeds)), min(len(deeds), 3)):
                self.assertIs(respects(deeds, list(order)), plain_respects(deeds, order))
                self.assertEqual(replay(deeds, list(order)), plain_replay(deeds, order))
            self.assertIs(times_agree(deeds), plain_times_agree(deeds))
            consistent = plain_replay(deeds, time_order(deeds)) is not None and plain_times_agree(deeds)
            self.assertIs(is_consistent(deeds), consistent)
            if consistent:
                self.assertIs(respects(deeds, time_order(deeds)), True)
            seen.add((consistent, len(deeds)))
        self.assertEqual(len(seen), 11)


class FindOrderTest(unittest.TestCase):

    def test_the_least_order(self):
        self.assertEqual(find_order([]), [])
        self.assertEqual(find_order([txn(1, 1)] * 7), list(range(7)))
        deeds = [reader(0, 1, [("a", 2)]), txn(1, 2, [("a", 1)], [("a", 2)]), txn(2, 3, [], [("a", 1)])]
        self.assertEqual(find_order(deeds), [2, 1, 0])
        # The times do not matter, but real time does.
        self.assertEqual(find_order([txn(1, 9, begin=5), txn(2, 1, begin=1, end=4)]), [1, 0])
        self.assertEqual(find_order([txn(1, 9, begin=4), txn(2, 1, begin=1, end=4)]), [0, 1])

    def test_none(self):
        self.assertIsNone(find_order([reader(0, 1, [("a", 1)])]))
        self.assertIsNone(find_order([reader(0, 1, [("a", 1)], 1, 2), txn(1, 1, [], [("a", 1)], 3, 4)]))

    def test_eight_deeds(self):
        for many in (8, 9, 50):
            self.assertEqual(error_of(find_order, [txn(1, 1)] * many), BadArgument)

    def test_drawn_histories(self):
        found = {True: 0, False: 0}
        for deeds in some_histories():
            orders = [list(order) for order in itertools.permutations(range(len(deeds)))
                      if plain_respects(deeds, order) and plain_replay(deeds, order) is not None]
            self.assertEqual(find_order(deeds), min(orders, default=None))
            found[orders == []] += 1
        self.assertTrue(min(found.values()) > 30)


class SeenByTest(unittest.TestCase):

    def test_the_last_deed_that_writes_the_key(self):
        deeds = [reader(0, 9, [("a", 2), ("b", 3), ("c", None)]), txn(1, 1, [], [("a", 1), ("b", 1)]),
                 txn(2, 2, [("a", 1)], [("a", 2)]), txn(3, 9, [("c", None), ("b", 1), ("a", 2)], [("b", 3)]), txn(4, 10, [], [("a", 5)])]
        self.assertEqual(seen_by(deeds, 0), [2, 3, None])
        self.assertEqual(seen_by(deeds, 1), [])
        self.assertEqual(seen_by(deeds, 2), [1])
        self.assertEqual(seen_by(deeds, 3), [None, 1, 2])

    def test_own_writes_are_not_seen(self):
        deeds = [txn(1, 1, [("a", None)], [("a", 1)]), txn(2, 2, [("a", 1)], [("a", None)]), reader(0, 3, [("a", None)])]
        self.assertEqual([seen_by(deeds, index) for index in range(3)], [[None], [0], [1]])

    def test_the_values_do_not_matter(self):
        self.assertEqual(seen_by([txn(1, 1, [], [("a", 1)]), reader(0, 3, [("a", 77)])], 1), [0])

    def test_bad_indexes(self):
        for deeds, index in [([], 0), ([W], 1), ([W], -1), ([W, R], 2), ([W, R], -2), ([W], FAR)]:
            self.assertEqual(error_of(seen_by, deeds, index), BadArgument)


class ExampleTest(unittest.TestCase):

    def test_the_example(self):
        deeds = [R, W, E]
        self.assertEqual(time_order(deeds), [2, 1, 0])
        self.assertEqual(replay(deeds, [2, 1, 0]), {"a": 1, "b": 2})
        self.assertIs(is_consistent(deeds), True)
        self.assertIsNone(replay(deeds, [1, 2, 0]))
        self.assertEqual(seen_by(deeds, 0), [1])

    def test_arguments_are_not_changed(self):
        deeds, order = [R, W, E], [2, 1, 0]
        for call in (time_order, times_agree, is_consistent, find_order):
            call(deeds)
        replay(deeds, order)
        respects(deeds, order)
        seen_by(deeds, 0)
        self.assertEqual((deeds, order), ([R, W, E], [2, 1, 0]))


if __name__ == "__main__":
    unittest.main()
