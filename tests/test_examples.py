"""The examples of the document, line by line; the names of one file go on into the next one."""

import unittest
from importlib import import_module
from pathlib import Path

from landpoints import errors

FOLDER = Path(__file__).parent / "examples"
# In the order of the document, with the number of examples of each.
FILES = {"areas": 9, "plans": 12, "titles": 10, "searches": 10, "ways": 10, "wrongs": 9, "charges": 9, "wholes": 10,
         "orders": 12, "offices": 9, "joins": 10, "rents": 10, "judge": 9, "board": 10, "texts": 10, "desk": 5}


def calls_in(text):
    """The pairs (call, what stands below it) of the examples."""
    lines = text.splitlines()
    for at, line in enumerate(lines):
        if line.startswith(">>> "):
            below = lines[at + 1] if at + 1 < len(lines) else ""
            yield line[4:], "" if below.startswith(">>> ") else below


def told(raised):
    return f"{type(raised).__name__}({', '.join(f'{name}={value!r}' for name, value in vars(raised).items())})"


class Examples(unittest.TestCase):
    def look_at(self, call, below, names):
        if not below:
            exec(call, names)
        elif below.startswith("raises "):
            with self.assertRaises((LookupError, ValueError)) as caught:
                eval(call, names)
            self.assertEqual(told(caught.exception), below[len("raises "):])
            self.assertIs(type(caught.exception), getattr(errors, type(caught.exception).__name__))
        else:
            self.assertEqual(repr(eval(call, names)), below)

    def test_all_lines(self):
        names = {}
        for file in FILES:
            names.update(vars(import_module(f"landpoints.{file}")))
        for file, wanted in FILES.items():
            many = 0
            for call, below in calls_in((FOLDER / f"{file}.txt").read_text()):
                with self.subTest(file=file, call=call):
                    self.look_at(call, below, names)
                many += 1
            self.assertEqual(many, wanted, file)


if __name__ == "__main__":
    unittest.main()
