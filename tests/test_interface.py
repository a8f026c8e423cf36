import importlib
import inspect
import unittest

FUNCTIONS = {
    "spans": {"beside": "place bridges"},
    "signs": {"is_road": "row bridges one other", "is_shut": "row bridges one other"},
    "ways": {"way": "places bridges one other", "groups": "places bridges", "detours": "places bridges"},
    "chart": {"Chart": "places", "Chart.build": "self one other", "Chart.pull": "self one other"},
    "day": {"answers": "places deeds", "standing": "places deeds"},
}


class InterfaceTest(unittest.TestCase):
    def test_everything_is_there_under_its_name_with_its_arguments(self):
        for file, functions in FUNCTIONS.items():
            for name, arguments in functions.items():
                found = importlib.import_module("holmway." + file)
                for part in name.split("."):
                    found = getattr(found, part)
                self.assertEqual(list(inspect.signature(found).parameters), arguments.split(), name)


if __name__ == "__main__":
    unittest.main()
