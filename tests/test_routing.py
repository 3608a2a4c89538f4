"""Point 45: cuts and groups of keys."""

import unittest

from meridian.clients.routing import check_cuts, group_of_key
from meridian.errors import BadArgument
from tests.helpers import KEYS, dice, error_of


class CutsTest(unittest.TestCase):

    def test_good_cuts(self):
        for cuts in [(), [], ("a",), ["a"], ("a", "b"), ["/", "0", "a", "ab", "b", "z9"]]:
            before = list(cuts)
            self.assertIsNone(check_cuts(cuts))
            self.assertEqual(list(cuts), before)

    def test_empty_and_strange_cuts(self):
        for cut in ("", "A", "a b", "-", "ab_", "a,", "\xe4"):
            for cuts in ([cut], (cut,), [cut, "z"], ["0", cut], ("0", cut, "z")):
                self.assertIs(error_of(check_cuts, cuts), BadArgument)

    def test_cuts_that_are_not_ascending(self):
        for cuts in [("a", "a"), ("b", "a"), ["a", "b", "b"], ["a", "c", "b"], ("ab", "a"), ("a", "0"), ("b", "a", "c")]:
            self.assertIs(error_of(check_cuts, cuts), BadArgument)

    def test_keys_around_each_cut(self):
        cuts = ("b", "bb", "d")
        for key, group in [("/", 0), ("a", 0), ("az", 0), ("b", 1), ("b.", 1), ("ba", 1), ("bb", 2), ("bb/", 2), ("c", 2),
                           ("cz", 2), ("d", 3), ("da", 3), ("z", 3)]:
            self.assertEqual(group_of_key(cuts, key), group)
            self.assertEqual(group_of_key(list(cuts), key), group)

    def test_no_cuts(self):
        for key in KEYS:
            self.assertEqual(group_of_key((), key), 0)
            self.assertEqual(group_of_key([], key), 0)

    def test_any_cuts(self):
        source = dice(45)
        for _ in range(200):
            cuts = sorted(source.sample(KEYS, source.randrange(len(KEYS))))
            groups = [group_of_key(cuts, key) for key in sorted(KEYS)]
            self.assertEqual(groups, [sum(cut <= key for cut in cuts) for key in sorted(KEYS)])
            self.assertEqual(groups, sorted(groups))


if __name__ == "__main__":
    unittest.main()
