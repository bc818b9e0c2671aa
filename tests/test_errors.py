"""The interface: the errors and the functions, by their names, files and arguments."""

import ast
import inspect
import pathlib
import unittest

from flameward import errors, lots, night, notes, watch

NUMBERED = (errors.BadCandles, errors.BadPlan, errors.BadLot, errors.BadDeed)
PLAIN = (errors.BadCount, errors.NoWatch, errors.TooMany)
ALL = NUMBERED + PLAIN + (errors.Halted, errors.BadText)


def defined_in(module):
    tree = ast.parse(pathlib.Path(module.__file__).read_text(encoding="utf-8"))
    return {row.name for row in tree.body if isinstance(row, (ast.ClassDef, ast.FunctionDef))}


class Errors(unittest.TestCase):
    def test_flame_error_is_a_value_error(self):
        self.assertTrue(issubclass(errors.FlameError, ValueError))

    def test_each_is_a_flame_error_and_none_is_under_another(self):
        for one in ALL:
            self.assertTrue(issubclass(one, errors.FlameError), one)
            for other in ALL:
                self.assertEqual(issubclass(one, other), one is other, (one, other))

    def test_number(self):
        for one in NUMBERED:
            self.assertEqual(one(7).number, 7)

    def test_halted_has_number_and_done(self):
        error = errors.Halted(4, 3)
        self.assertEqual((error.number, error.done), (4, 3))

    def test_bad_text_has_row(self):
        self.assertEqual(errors.BadText(2).row, 2)

    def test_the_others_are_made_of_nothing_or_of_a_text(self):
        for one in PLAIN + (errors.FlameError,):
            self.assertIsInstance(one(), errors.FlameError)
            self.assertIn("why", str(one("why")))

    def test_all_are_defined_in_their_file(self):
        names = {one.__name__ for one in ALL} | {"FlameError"}
        self.assertEqual(names - defined_in(errors), set())


WANTED = {
    watch: {
        "longest": ["candles"],
        "by_turn": ["candles", "turn"],
        "bound": ["candles", "lot"],
        "bounds": ["candles", "lot", "limit"],
        "judged": ["candles", "plan"],
    },
    lots: {
        "keeps": ["candles", "lot", "time"],
        "cheapest": ["candles", "time"],
        "fewest": ["candles", "time"],
        "spare": ["candles", "time"],
        "lean": ["candles", "time"],
        "slack": ["candles", "time", "number"],
        "one_more": ["candles", "time", "damp"],
        "robbed": ["candles", "many"],
        "turns": ["candles"],
        "two": ["candles", "time"],
    },
    night: {"Night": ["candles"]},
    notes: {"written": ["candles"], "read": ["text"]},
}
METHODS = {
    "do": ["self", "deed"],
    "best": ["self"],
    "time": ["self"],
    "back": ["self"],
    "batch": ["self", "deeds", "keep"],
    "burning": ["self"],
    "unlit": ["self"],
    "deeds": ["self"],
}


class Interface(unittest.TestCase):
    def test_names_and_arguments(self):
        for module, wanted in WANTED.items():
            for name, arguments in wanted.items():
                parameters = inspect.signature(getattr(module, name)).parameters
                self.assertEqual(list(parameters), arguments, name)

    def test_each_is_defined_in_its_file(self):
        for module, wanted in WANTED.items():
            self.assertEqual(set(wanted) - defined_in(module), set())

    def test_methods_of_a_night_stand_in_the_class_itself(self):
        for name, arguments in METHODS.items():
            method = vars(night.Night)[name]
            self.assertEqual(list(inspect.signature(method).parameters), arguments, name)

    def test_keep_stands_behind_the_star_and_is_true(self):
        keep = inspect.signature(night.Night.batch).parameters["keep"]
        self.assertIs(keep.kind, inspect.Parameter.KEYWORD_ONLY)
        self.assertIs(keep.default, True)

    def test_arguments_may_be_handed_in_by_name(self):
        candles = ((5, 0, 1),)
        self.assertEqual(watch.longest(candles=candles), (5, [(0, 0)]))
        self.assertEqual(watch.by_turn(turn=(0,), candles=candles), (5, [(0, 0)]))
        self.assertEqual(watch.bound(lot=(0,), candles=candles), (5, None))
        self.assertEqual(watch.bounds(limit=0, lot=(0,), candles=candles), 5)
        self.assertEqual(watch.judged(plan=[(0, 0)], candles=candles), 5)
        self.assertEqual(lots.keeps(time=5, lot=(0,), candles=candles), True)
        self.assertEqual(lots.cheapest(time=5, candles=candles), (1, (0,)))
        self.assertEqual(lots.fewest(time=5, candles=candles), (1, (0,)))
        self.assertEqual(lots.spare(time=5, candles=candles), [])
        self.assertEqual(lots.lean(time=5, candles=candles), (0,))
        self.assertEqual(lots.slack(number=0, time=5, candles=candles), (5, 0))
        self.assertEqual(lots.one_more(damp=5, time=6, candles=candles), 1)
        self.assertEqual(lots.robbed(many=1, candles=candles), (0, (0,)))
        self.assertEqual(lots.turns(candles=candles), 1)
        self.assertEqual(lots.two(time=0, candles=candles), (0, (), ()))
        self.assertEqual(night.Night(candles=candles).do(deed=("light", 0)), 5)
        self.assertEqual(night.Night(candles=candles).batch(keep=False, deeds=[("light", 0)]), [5])
        self.assertEqual(notes.written(candles=candles), "candle 5 0 1")
        self.assertEqual(notes.read(text="candle 5 0 1"), candles)


if __name__ == "__main__":
    unittest.main()
