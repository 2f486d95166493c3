"""What holds for all functions: what is passed stays as it was, what comes out is new, and arguments go by their names."""

import copy

from rootward.caches import Cache
from rootward.forests import Forest
from rootward.moves import Moves
from rootward.namesets import Names
from rootward.worlds import World
from rootward.zones import Zone


def parts_in(value):
    """Return all lists and dicts within lists, tuples and dicts, each as often as it stands there."""
    found = [value] if isinstance(value, (list, dict)) else []
    if isinstance(value, (list, tuple)):
        for part in value:
            found.extend(parts_in(part))
    if isinstance(value, dict):
        for part in value.values():
            found.extend(parts_in(part))
    return found


def spoil(value):
    """Change all lists and dicts within lists, tuples and dicts."""
    for one in parts_in(value):
        if isinstance(one, list):
            one.append("spoiled")
            del one[0]
        else:
            one.clear()
            one["spoiled"] = "spoiled"


def seen(value):
    """Return something plain by which an argument or an answer can be compared."""
    if isinstance(value, Zone):
        return ("zone", value.apex, value.serial, value.absent_age, value.records(), value.sets(), value.names())
    if isinstance(value, Names):
        return ("names", value.rows(), len(value))
    if isinstance(value, Moves):
        return ("moves", value.moves(), len(value))
    if isinstance(value, Forest):
        return ("forest", seen(value.zones), value.machines, [value.serves(machine) for machine in value.machines], value.roots)
    if isinstance(value, Cache):
        twin = value.twin()
        return ("cache", twin.policy, twin._now, twin.living(twin._now))
    if isinstance(value, World):
        held = {node: value.held(node) for node in value.resolvers()}
        return ("world", value.clock, value.up, seen(value.forest), seen(value.deeds), value.depth, value.resolvers(), held)
    if isinstance(value, (list, tuple)):
        return (value.__class__, [seen(one) for one in value])
    if isinstance(value, dict):
        return {key: seen(one) for key, one in value.items()}
    return copy.deepcopy(value)


class Manners:
    """Tests of calls: `calls` returns tuples (function, arguments by name, those of them that go by name alone)."""

    MODULES, HELPERS = [], []

    def calls(self):
        return []

    def test_every_function_is_called(self):
        found = set([call.__name__ for call, _, _ in self.calls()])
        for module in self.MODULES:
            for word, one in vars(module).items():
                if getattr(one, "__module__", None) == module.__name__ and not word.startswith(("_", "check_")):
                    if word not in self.HELPERS:
                        self.assertIn(word, found)

    def test_by_position_and_by_name(self):
        for call, arguments, named in self.calls():
            with self.subTest(call=call.__name__):
                plain = [value for word, value in arguments.items() if word not in named]
                told = seen(call(*plain, **{word: arguments[word] for word in named}))
                self.assertEqual(told, seen(call(**arguments)))
                turned = {word: arguments[word] for word in list(arguments)[::-1]}
                self.assertEqual(told, seen(call(**turned)))
                for word in named:
                    with self.assertRaises(TypeError):
                        call(*plain, arguments[word])

    def test_arguments_stay_as_they_were(self):
        for call, arguments, _ in self.calls():
            with self.subTest(call=call.__name__):
                ahead = {word: seen(value) for word, value in arguments.items()}
                call(**arguments)
                self.assertEqual(ahead, {word: seen(value) for word, value in arguments.items()})

    def test_what_is_passed_is_not_kept(self):
        for call, arguments, _ in self.calls():
            with self.subTest(call=call.__name__):
                arguments = {word: copy.deepcopy(value) for word, value in arguments.items()}
                told = call(**arguments)
                ahead = seen(told)
                passed = [id(one) for value in arguments.values() for one in parts_in(value)]
                self.assertEqual([], [one for one in parts_in(told) if id(one) in passed])
                for value in arguments.values():
                    spoil(value)
                self.assertEqual(ahead, seen(told))

    def test_returned_lists_are_new(self):
        for call, arguments, _ in self.calls():
            with self.subTest(call=call.__name__):
                told = call(**arguments)
                ahead = seen(told)
                again = call(**arguments)
                each = [id(one) for one in parts_in(told) + parts_in(again)]
                self.assertEqual(len(each), len(set(each)))
                spoil(told)
                self.assertEqual(ahead, seen(again))
                self.assertEqual(ahead, seen(call(**arguments)))


def check_refused(test, error, value, call):
    """Look at the error of a call that refuses a value: what it stores is new, down to each list and dict in it."""
    ahead = copy.deepcopy(value)
    passed = [id(one) for one in parts_in(value)]
    with test.assertRaises(error) as caught:
        call()
    told = caught.exception.value
    test.assertEqual(value, told)
    each = [id(one) for one in parts_in(told)]
    test.assertEqual(len(each), len(set(each)))
    test.assertEqual([], [one for one in each if one in passed])
    spoil(told)
    test.assertEqual(ahead, value)
