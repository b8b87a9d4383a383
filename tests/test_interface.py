"""The document's interface: every module, function, class and method is there with its arguments."""

import importlib
import inspect
import unittest

FUNCTIONS = {
    "names": {"good_name": ["text"]},
    "portions": {"portion": ["people", "each", "over"]},
    "least": {"least_widths": ["count", "rules"]},
    "rings": {"find_ring": ["count", "rules"]},
    "chains": {"chain_of": ["count", "rules", "member"]},
    "slacks": {"first_wide": ["widths", "tops"], "slack_of": ["count", "rules", "tops", "member"]},
    "costs": {"cost_of": ["count", "rules", "place"]},
    "rows": {"read_row": ["row"]},
    "desk": {"answers": ["rows"]},
}
METHODS = {
    "add_member": ["name"], "add_plain": ["name", "member", "people", "each", "over"],
    "add_link": ["name", "member", "base", "more"], "set_top": ["member", "width"], "strike_member": ["name"],
    "strike_demand": ["name"], "strike_top": ["member"], "take_back": [], "members": [], "demands": [], "tops": [],
    "widths": [], "chain": ["member"], "why": [], "slack": ["member"], "cost": ["demand"],
}


def arguments(function):
    return list(inspect.signature(function).parameters)


class InterfaceTest(unittest.TestCase):
    def test_functions(self):
        for module, functions in FUNCTIONS.items():
            for name, told in functions.items():
                with self.subTest(module=module, name=name):
                    function = getattr(importlib.import_module("stairgauge." + module), name)
                    self.assertEqual(arguments(function), told)

    def test_the_house(self):
        house = importlib.import_module("stairgauge.house").House()
        for name, told in METHODS.items():
            with self.subTest(name=name):
                self.assertEqual(arguments(getattr(house, name)), told)

    def test_arguments_by_their_names(self):
        house = importlib.import_module("stairgauge.house").House()
        house.add_member(name="door")
        house.add_member(name="stair")
        house.add_plain(name="a", member="door", people=60, each=3, over=2)
        house.add_link(name="b", member="stair", base="door", more=14)
        house.set_top(member="stair", width=110)
        self.assertEqual(house.chain(member="stair"), ["a", "b"])
        self.assertEqual(house.slack(member="door"), (6, "stair"))
        self.assertEqual(house.cost(demand="a"), 180)
        house.strike_top(member="stair")
        house.strike_demand(name="b")
        house.strike_member(name="stair")
        self.assertEqual((house.members(), house.widths()), (["door"], [90]))


if __name__ == "__main__":
    unittest.main()
