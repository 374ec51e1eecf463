"""The names of the interface: where they are defined, and which arguments they take."""

import importlib
import inspect
import unittest

FUNCTIONS = {
    "logs": "impossible_row(log) final_states(log)",
    "questions": "possible_places(log,item) answer(log,sight)",
    "touching": "touch_words(log,item) touch_span(log,item,hand)",
    "courses": "fewest_course(log) first_fault(log,course) course_count(log,number) courses(log,number)",
    "teams": "least_teams(log) indispensable(log)",
    "ways": "shortest_way(world,hands,sight) reachable(house,states,hands)",
    "checks": "finding(world,check) findings(log,check) sight_of(check,finding) next_check(log,checks)"
              " fewest_checks(log,checks,sight)",
    "guards": "unnoticed_way(world,hands,sight,checks) guards(world,hands,sight,checks)",
    "tellers": "liars(log,tellers) least_left_out(log,tellers)",
    "joins": "joined(logs,join) join_count(logs) first_join(logs) surely_before(logs,one,other)",
    "rounds": "rounds(world,deeds,count) true_rounds(world,deeds,sight,count) first_round(world,deeds,sight)",
    "shares": "share(log,number,sight) touch_shares(log,number,item)",
    "notation": "format_log(log) parse_log(text)",
    "boards": "board(world)",
    "codec": "encode_log(log) decode_log(values)",
}
CLASSES = {
    "houses": ("House(hands,boxes,things,seals)", "__contains__(item) __eq__(other)"),
    "worlds": ("World(house)", "__call__(deed) __eq__(other) where(item) holder(item) inside(box) seal(box) held(hand)"
                               " changed(state) is_so(sight)"),
    "logs": ("Log(house,rows)", "__len__() __getitem__(index) __add__(rows) __eq__(other) until(number) watched(hands)"),
    "watches": ("Watch(house)", "add(row) go(name) mark(name) undo() redo() log() surely(sight) apply_all(operations)"
                                " tried(operations,keep) replay(house,operations)"),
    "suspects": ("Suspects(log)", "see(row) log() can_be(hand,sight) telling(checks)"),
    "daybooks": ("Daybook(text)", "log()"),
}


def defined(module, name):
    return getattr(importlib.import_module("sealwatch." + module), name)


def arguments(function):
    return [name for name in inspect.signature(function).parameters if name not in ("self", "cls")]


def parts(told):
    """The name and the arguments of what is told."""
    name, rest = told[:-1].split("(")
    return name, [part for part in rest.split(",") if part]


class Interface(unittest.TestCase):

    def test_functions(self):
        for module, told in FUNCTIONS.items():
            for call in told.split():
                name, wanted = parts(call)
                function = defined(module, name)
                self.assertTrue(inspect.isfunction(function), name)
                self.assertEqual((function.__module__, arguments(function)), ("sealwatch." + module, wanted))

    def test_generator(self):
        self.assertTrue(inspect.isgeneratorfunction(defined("courses", "courses")))

    def test_classes(self):
        rest = [("watches", "Trial(watch)", "keep() __enter__()")]
        for module, made, methods in [(module, *told) for module, told in CLASSES.items()] + rest:
            name, wanted = parts(made)
            kind = defined(module, name)
            self.assertTrue(inspect.isclass(kind), name)
            self.assertEqual((kind.__module__, arguments(kind)), ("sealwatch." + module, wanted))
            for call in methods.split():
                method, wanted = parts(call)
                self.assertIn(method, vars(kind))
                self.assertEqual(arguments(getattr(kind, method)), wanted, (name, method))

    def test_replay_is_a_class_method(self):
        self.assertIsInstance(vars(defined("watches", "Watch"))["replay"], classmethod)

    def test_attributes(self):
        house = defined("houses", "House")(1, [("hand", 0)], [], [])
        log = defined("logs", "Log")(house, [("bare", 0)])
        text = "hands 1\nbox hand 0\nlog"
        for thing, names in (
            (house, "hands boxes things seals state all_items"), (defined("worlds", "World")(house), "house state"),
            (log, "house rows gaps"), (defined("watches", "Watch")(house), "marks history"),
            (defined("suspects", "Suspects")(log), "candidates"), (defined("daybooks", "Daybook")(text), "results"),
        ):
            for name in names.split():
                self.assertFalse(callable(getattr(thing, name)), name)


if __name__ == "__main__":
    unittest.main()
