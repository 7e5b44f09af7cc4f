"""The interface: names, arguments, and the file that defines each of them."""

import importlib
import inspect
import unittest

FUNCTIONS = {
    "nets": {"is_net": ["value"], "enabled": ["net", "marking"], "after": ["net", "marking", "name"]},
    "sound": {"unsound": ["net"], "shows": ["net", "word", "names"], "grounds": ["net"],
              "grounds_hold": ["net", "value"], "finish": ["net", "marking"]},
    "versions": {"fits": ["net", "names"], "marking_after": ["net", "names"], "unlike": ["one", "other"]},
    "hours": {"is_open": ["calendar", "tick"], "open_ticks": ["calendar", "first", "last"],
              "due": ["calendar", "first", "ticks"]},
    "forecast": {"has_circle": ["net"], "span": ["net", "times"], "shortest": ["net", "times"],
                 "longest": ["net", "times"]},
    "houses": {"rebuild": ["rows"], "revive": ["value"]},
    "audit": {"text_of": ["row"], "digest": ["text"], "top": ["rows"], "proof": ["rows", "at"],
              "proof_holds": ["top", "many", "at", "row", "value"], "clash": ["rows", "at", "row", "value"]},
    "texts": {"printed": ["net"], "parse": ["text"]},
}
METHODS = {
    "log": [], "now": [], "grant": ["who", "person", "act", "flow"], "revoke": ["who", "person", "act", "flow"],
    "rights": [], "publish": ["who", "flow", "net"], "flows": [], "net": ["flow", "version"],
    "queue": ["who", "queue", "aging", "rate", "window"], "queues": [], "start": ["who", "flow", "priority"],
    "instances": [], "instance": ["number"], "waits": [], "tasks": [], "claim": ["worker", "queue"],
    "done": ["worker", "number", "fence"], "fail": ["worker", "number", "fence"],
    "beat": ["worker", "number", "fence"], "clock": ["tick"], "cancel": ["who", "instance"],
    "choose": ["who", "instance", "step"], "signal": ["who", "instance", "word"],
    "move": ["who", "instance", "version"], "listing": ["who", "flow", "status"], "kept": [], "copy": [],
    "__eq__": ["other"], "__init__": [],
}
CLASSES = {
    "FlowError": None, "BadValue": "at", "BadText": "at", "BadRow": "at", "BadGrounds": "at",
    "NoMove": "at", "Doubled": "place", "Unsound": "word", "NoRight": "act", "NotNow": "status",
    "NoFlow": "flow", "NoInstance": "number", "Late": None, "TooMany": None,
}


class InterfaceTest(unittest.TestCase):

    def test_functions(self):
        for file, functions in FUNCTIONS.items():
            module = importlib.import_module("wholeflow." + file)
            for name, arguments in functions.items():
                function = getattr(module, name)
                self.assertTrue(inspect.isfunction(function))
                self.assertEqual(function.__module__, "wholeflow." + file)
                self.assertEqual(list(inspect.signature(function).parameters), arguments)

    def test_the_house(self):
        module = importlib.import_module("wholeflow.houses")
        self.assertEqual(module.House.__module__, "wholeflow.houses")
        for name, arguments in METHODS.items():
            self.assertIn(name, vars(module.House))
            told = inspect.signature(getattr(module.House, name)).parameters.values()
            self.assertEqual([one.name for one in told], ["self"] + arguments)
            self.assertTrue(all(one.default is one.empty for one in told))

    def test_classes(self):
        module = importlib.import_module("wholeflow.errors")
        for name, argument in CLASSES.items():
            error = getattr(module, name)
            self.assertTrue(inspect.isclass(error))
            self.assertEqual(error.__module__, "wholeflow.errors")
            if argument is not None:
                told = list(inspect.signature(error.__init__).parameters)
                self.assertEqual(told, ["self", argument])


if __name__ == "__main__":
    unittest.main()
