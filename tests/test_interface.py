"""The names and arguments of the interface, and where they are defined."""

import importlib
import inspect
import unittest

ARGUMENTS = {
    "letters": {"members": ["n", "bits"], "bits_of": ["letters"]},
    "machine": {"check_machine": ["m"], "offers": ["m", "state"], "led": ["m", "word"],
                "product": ["a", "b"], "pairs_of": ["a", "b"], "alike": ["a", "b"]},
    "demand": {"check_demand": ["d"], "led_to": ["d", "word"], "anything": ["n"], "nothing": ["n"], "only": ["m"]},
    "keeping": {"keeps": ["m", "d"], "is_kept": ["m", "d", "paper"]},
    "hollow": {"hollow": ["d"], "is_ladder": ["d", "states"], "ladder": ["d"], "trimmed": ["d"], "some": ["d"],
               "with_word": ["d", "word", "bits"]},
    "refining": {"refines": ["s", "t"], "takes": ["s", "t", "paper"], "equal": ["s", "t"], "least": ["d"]},
    "joining": {"meet": ["a", "b"], "either": ["a", "b"], "beside": ["a", "b"], "parts": ["a", "b", "word", "bits"]},
    "dividing": {"divided": ["t", "s"], "completes": ["x", "s", "t"], "accepts": ["x", "s", "t", "paper"],
                 "missing": ["t", "s"]},
    "writing": {"written_machine": ["m"], "written_demand": ["d"], "read_machine": ["text"],
                "read_demand": ["text"]},
}
ERRORS = ("SpandrelError", "BadMachine", "BadDemand", "BadLetters", "BadWord", "BadSet", "BadState",
          "BadText", "TooMuch")


class Interface(unittest.TestCase):
    def test_functions(self):
        for module, functions in ARGUMENTS.items():
            for name, arguments in functions.items():
                with self.subTest(module, name=name):
                    found = getattr(importlib.import_module(f"spandrel.{module}"), name)
                    self.assertEqual(found.__module__, f"spandrel.{module}")
                    self.assertEqual(list(inspect.signature(found).parameters), arguments)

    def test_errors(self):
        for name in ERRORS:
            with self.subTest(name):
                found = getattr(importlib.import_module("spandrel.errors"), name)
                self.assertEqual(found.__module__, "spandrel.errors")


if __name__ == "__main__":
    unittest.main()
