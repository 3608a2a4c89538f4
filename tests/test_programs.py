"""Points 38 and 39: transaction programs."""

import unittest

from meridian.deals.programs import advance, changed_keys, check_program, put_rows, run_alone
from meridian.errors import BadArgument
from tests.helpers import KEYS, VALUES, dice, error_of

FAR = 10 ** 40
WRONG_KEYS = ["", "A", "a b", "-", "ab_", "a,", "\xe4"]


def plain_run(rows, program):
    """Execute a program on rows as the points say; return what it read, its writes, and whether it completed."""
    read, made = {}, {}

    def value_of(key):
        if key in made:
            return made[key]
        read.setdefault(key, rows.get(key))
        return read[key]

    for name, key, *rest in program:
        if name == "put":
            made[key] = rest[0]
        elif name == "drop":
            made[key] = None
        elif name == "read":
            value_of(key)
        elif name == "add":
            made[key] = (value_of(key) or 0) + rest[0]
        elif name == "copy":
            made[rest[0]] = value_of(key)
        elif name == "need":
            value = value_of(key)
            if value is None or value < rest[0]:
                return list(read.items()), (), False
        elif value_of(key) != rest[0] or (value_of(key) is None) != (rest[0] is None):
            return list(read.items()), (), False
    return list(read.items()), tuple(sorted(made.items(), key=lambda pair: pair[0])), True


def some_program(source, keys, many):
    program = []
    for _ in range(source.randrange(1, many + 1)):
        name = source.choice(["read", "put", "drop", "add", "need", "equal", "copy"])
        key, value = source.choice(keys), source.choice(VALUES + [0, 0, None])
        number = source.choice([0, 1, -1, 5, -10 ** 30, FAR]) if value is None else value
        rest = {"read": (), "drop": (), "put": (number,), "add": (number,), "equal": (value,),
                "need": (source.choice([-10 ** 30, -1, 0, 1, number]),), "copy": (source.choice(keys),)}
        program.append((name, key) + rest[name])
    return program


class AdvanceTest(unittest.TestCase):

    def check(self, program, got, answer):
        for kind in (list, tuple):
            form = kind(program)
            pairs = list(got)
            self.assertEqual(advance(form, pairs), answer)
            self.assertEqual((list(form), pairs), (list(program), list(got)))

    def test_examples(self):
        program = [("need", "a", 5), ("copy", "a", "b")]
        self.check(program, [], ("ask", "a"))
        self.check(program, [("a", 4)], ("give_up",))
        self.check(program, [("a", 7)], ("done", (("b", 7),)))

    def test_each_operation(self):
        for operation, value, answer in [
                (("read", "a"), 5, ("done", ())), (("read", "a"), None, ("done", ())),
                (("add", "a", 3), 5, ("done", (("a", 8),))), (("add", "a", 3), None, ("done", (("a", 3),))),
                (("add", "a", -8), 5, ("done", (("a", -3),))), (("add", "a", 0), None, ("done", (("a", 0),))),
                (("add", "a", FAR), -FAR, ("done", (("a", 0),))),
                (("need", "a", 5), 5, ("done", ())), (("need", "a", 5), 6, ("done", ())),
                (("need", "a", 5), 4, ("give_up",)), (("need", "a", 5), None, ("give_up",)),
                (("need", "a", 0), None, ("give_up",)), (("need", "a", -5), None, ("give_up",)),
                (("need", "a", -5), -5, ("done", ())), (("need", "a", -5), -6, ("give_up",)),
                (("equal", "a", 5), 5, ("done", ())), (("equal", "a", 5), 4, ("give_up",)),
                (("equal", "a", 5), None, ("give_up",)), (("equal", "a", None), None, ("done", ())),
                (("equal", "a", None), 0, ("give_up",)), (("equal", "a", 0), None, ("give_up",)),
                (("equal", "a", 0), 0, ("done", ())), (("copy", "a", "b"), 5, ("done", (("b", 5),))),
                (("copy", "a", "b"), None, ("done", (("b", None),))), (("copy", "a", "a"), 5, ("done", (("a", 5),)))]:
            self.check([operation], [], ("ask", "a"))
            self.check([operation], [("z", 1)], ("ask", "a"))
            self.check([operation], [("a", value)], answer)
        self.check([("put", "a", -4)], [], ("done", (("a", -4),)))
        self.check([("drop", "a")], [], ("done", (("a", None),)))

    def test_keys_that_the_program_has_changed_before(self):
        for first, value in [(("put", "a", 7), 7), (("drop", "a"), None)]:
            for second, answer in [(("read", "a"), ("done", (("a", value),))), (("copy", "a", "b"), ("done", (("a", value), ("b", value)))),
                                   (("add", "a", 1), ("done", (("a", (value or 0) + 1),))),
                                   (("equal", "a", value), ("done", (("a", value),))), (("equal", "a", 8), ("give_up",)),
                                   (("need", "a", 8), ("give_up",))]:
                self.check([first, second], [], answer)
                self.check([first, second], [("a", 8)], answer)
        self.check([("copy", "a", "b"), ("need", "b", 3)], [("a", 3)], ("done", (("b", 3),)))
        self.check([("copy", "a", "b"), ("need", "b", 3)], [("a", 2), ("b", 5)], ("give_up",))
        self.check([("read", "a"), ("put", "a", 1), ("equal", "a", 1)], [("a", 5)], ("done", (("a", 1),)))

    def test_the_first_key_that_is_not_there_is_asked_for(self):
        program = [("read", "c"), ("put", "a", 1), ("add", "a", 1), ("add", "b", 2), ("copy", "d", "c"), ("read", "c")]
        self.check(program, [], ("ask", "c"))
        self.check(program, [("c", 1)], ("ask", "b"))
        self.check(program, [("b", 1)], ("ask", "c"))
        self.check(program, [("b", 1), ("c", 1)], ("ask", "d"))
        self.check(program, [("d", None), ("b", 1), ("c", 1)], ("done", (("a", 2), ("b", 3), ("c", None))))

    def test_giving_up_before_a_key_is_asked_for(self):
        program = [("need", "a", 5), ("read", "b"), ("need", "a", 9)]
        self.check(program, [("a", 4)], ("give_up",))
        self.check(program, [("a", 5)], ("ask", "b"))
        self.check(program, [("a", 5), ("b", None)], ("give_up",))
        self.check(program, [("a", 9), ("b", 1)], ("done", ()))

    def test_the_order_of_the_writes(self):
        self.check([("put", key, 1) for key in ("z", "a", "/", "0", "ab", "b", "a")], [],
                   ("done", tuple((key, 1) for key in ("/", "0", "a", "ab", "b", "z"))))
        self.check([("put", "a", 1), ("put", "b", 2), ("put", "a", 3), ("drop", "b")], [], ("done", (("a", 3), ("b", None))))


class RunAloneTest(unittest.TestCase):

    def check(self, rows, program, answer):
        for kind in (list, tuple):
            form, before = kind(program), dict(rows)
            found = run_alone(rows, form)
            self.assertEqual(found, answer)
            self.assertIsInstance(found, tuple)
            self.assertEqual((rows, list(form)), (before, list(program)))

    def test_example(self):
        self.check({"a": 7}, [("add", "a", 1), ("add", "a", 1), ("drop", "c")], ([("a", 7)], (("a", 9), ("c", None)), True))

    def test_written_out(self):
        rows = {"a": 1, "b": -2}
        for program, answer in [
                ([("read", "b"), ("read", "a"), ("read", "c")], ([("b", -2), ("a", 1), ("c", None)], (), True)),
                ([("put", "a", 5)], ([], (("a", 5),), True)),
                ([("put", "c", 5), ("need", "a", 2), ("read", "b")], ([("a", 1)], (), False)),
                ([("equal", "c", None), ("put", "c", 1)], ([("c", None)], (("c", 1),), True)),
                ([("copy", "b", "a"), ("copy", "c", "b")], ([("b", -2), ("c", None)], (("a", -2), ("b", None)), True))]:
            self.check(rows, program, answer)

    def test_any_programs(self):
        source = dice(39)
        kinds = {True: 0, False: 0}
        for _ in range(1500):
            keys = source.sample(KEYS, 4)
            rows = {key: source.choice([0, 1, -1, 5, 10 ** 29]) for key in source.sample(keys, source.randrange(4))}
            program = some_program(source, keys, 8)
            answer = plain_run(rows, program)
            self.check(rows, program, answer)
            asked = [key for key, _ in answer[0]]
            self.assertEqual(len(asked), len(set(asked)))
            kinds[answer[2]] += 1
            changed = {operation[2] if operation[0] == "copy" else operation[1] for operation in program
                       if operation[0] in ("put", "drop", "add", "copy")}
            self.assertEqual(changed_keys(program), tuple(sorted(changed)))
            self.assertTrue({key for key, _ in answer[1]} <= changed)
        self.assertTrue(min(kinds.values()) > 300)


class RowsTest(unittest.TestCase):

    def test_put_rows(self):
        rows = {"a": 1, "b": 2}
        for writes, after in [((), {"a": 1, "b": 2}), ((("a", 5), ("c", 0)), {"a": 5, "b": 2, "c": 0}),
                              ((("a", None), ("c", None)), {"b": 2}), ((("a", None), ("b", None)), {}),
                              ((("b", -FAR),), {"a": 1, "b": -FAR})]:
            found = put_rows(rows, writes)
            self.assertEqual(found, after)
            found["z"] = 1
            self.assertEqual(rows, {"a": 1, "b": 2})

    def test_changed_keys(self):
        for program, keys in [([("read", "a"), ("need", "b", 1), ("equal", "c", 1)], ()),
                              ([("put", "b", 1), ("drop", "a"), ("add", "c", 1), ("copy", "x", "y")], ("a", "b", "c", "y")),
                              ((("add", "b", 1), ("put", "b", 1), ("copy", "b", "/")), ("/", "b"))]:
            self.assertEqual(changed_keys(program), keys)
            self.assertIsInstance(changed_keys(program), tuple)


class CheckTest(unittest.TestCase):

    GOOD = [("read", "a"), ("put", "a", 1), ("drop", "a"), ("add", "a", 1), ("need", "a", 1), ("equal", "a", None),
            ("copy", "a", "b")]

    def test_good_programs(self):
        source = dice(38)
        for program in [self.GOOD, tuple(self.GOOD)] + [[operation] for operation in self.GOOD]:
            self.assertIsNone(check_program(program))
        for _ in range(100):
            self.assertIsNone(check_program(some_program(source, KEYS, 6)))

    def test_empty_programs(self):
        self.assertIs(error_of(check_program, []), BadArgument)
        self.assertIs(error_of(check_program, ()), BadArgument)

    def test_strange_names(self):
        for name in ("", "Read", "reads", "floor", "ask", "give_up", "copy "):
            for program in ([(name, "a")], [(name, "a", 1)], self.GOOD + [(name, "a", "b")], [(name, "a")] + self.GOOD):
                self.assertIs(error_of(check_program, program), BadArgument)

    def test_empty_and_strange_keys(self):
        for key in WRONG_KEYS:
            for operation in self.GOOD:
                wrong = (operation[0], key) + operation[2:]
                for program in ([wrong], self.GOOD + [wrong], (wrong,) + tuple(self.GOOD)):
                    self.assertIs(error_of(check_program, program), BadArgument)
            self.assertIs(error_of(check_program, [("copy", "a", key)]), BadArgument)
            self.assertIs(error_of(check_program, self.GOOD + [("copy", "a", key)]), BadArgument)


if __name__ == "__main__":
    unittest.main()
