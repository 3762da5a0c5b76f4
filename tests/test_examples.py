"""The examples of the document, each one, in its order."""

import os
from importlib import import_module
from unittest import TestCase

FILES = {4: ("graphs",), 5: ("cuts",), 6: ("turns",), 7: ("sides",), 8: ("drawings",), 9: ("forbidden",), 10: ("discs",),
         11: ("parts",), 12: ("walks",), 13: ("stretches",), 14: ("chains",), 15: ("ways",), 16: ("ownfeet",), 17: ("two",),
         18: ("rounds",), 19: ("strands",), 20: ("homes",), 21: ("spans",), 22: ("trees",), 23: ("pairs",), 24: ("books",),
         25: ("edits",), 26: ("judge",), 27: ("texts", "yards", "desk")}


def example_lines():
    path = os.path.join(os.path.dirname(os.path.abspath(__file__)), "examples.txt")
    with open(path) as held:
        return held.read().splitlines()


def outcome(source, names):
    """The answer as it is written, or the error with its values."""
    try:
        return repr(eval(source, names))
    except (LookupError, ValueError) as error:
        return f"raises {type(error).__name__}({', '.join(repr(own) for own in vars(error).values())})"


class Examples(TestCase):

    def test_examples(self):
        names = {}
        asked = dict.fromkeys(FILES, 0)
        point = 0
        source = ""
        for line in example_lines():
            if line.startswith("point "):
                point = int(line[6:])
                for file in FILES[point]:
                    names.update(vars(import_module("threefeet." + file)))
            elif line.startswith(">>> "):
                source = line[4:]
                if " = " in source.split("(")[0]:
                    exec(source, names)
            else:
                due = line if line.startswith("raises ") else repr(eval(line, names))
                self.assertEqual(outcome(source, names), due, source)
                asked[point] += 1
        self.assertEqual(sum(asked.values()), 160)
        self.assertTrue(all(asked.values()))


if __name__ == "__main__":
    from unittest import main
    main()
