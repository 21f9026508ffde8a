"""What the interface lists is defined in the file under which it stands, with its arguments."""

import importlib
import inspect
import unittest

FUNCTIONS = {
    "webs": [
        "components(web)", "renamed(web, names)", "coloured(web, colours)", "beside(webs)",
        "copies(web, many, *, most_places=240)", "within(web, names)",
    ],
    "texts": ["web_text(web)", "read_web(text)"],
}
METHODS = {
    ("webs", "Web"): [
        "__init__(self, places, ties)", "places(self)", "colour(self, name)", "ties(self)", "kinds(self)",
        "colours(self)", "width(self, one, other, kind)", "__contains__(self, name)", "__len__(self)",
        "__eq__(self, other)",
    ],
}


class InterfaceTest(unittest.TestCase):

    def test_functions(self):
        for name, listed in FUNCTIONS.items():
            module = importlib.import_module("namelessly." + name)
            for line in listed:
                function = getattr(module, line.partition("(")[0])
                self.assertEqual(function.__module__, module.__name__, line)
                self.assertEqual(function.__name__ + str(inspect.signature(function)), line)

    def test_methods_stand_in_the_class_itself(self):
        for (name, title), listed in METHODS.items():
            made = getattr(importlib.import_module("namelessly." + name), title)
            self.assertEqual(made.__module__, "namelessly." + name)
            for line in listed:
                method = vars(made)[line.partition("(")[0]]
                self.assertEqual(method.__name__ + str(inspect.signature(method)), line)


if __name__ == "__main__":
    unittest.main()
