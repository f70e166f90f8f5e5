"""The examples of the document, with exactly the answers and the errors that it shows."""

import os
import unittest

from tests.helpers import fields_of
from throwshelves import errors

HERE = os.path.dirname(os.path.abspath(__file__))


def examples():
    """The lines of code in order, each with its promise and the line that the document shows behind it, or None."""
    found, promise = [], None
    with open(os.path.join(HERE, "examples.txt"), encoding="ascii") as text:
        lines = text.read().splitlines()[2:]
    for line in lines:
        if line.startswith("[") and line[1:-1].isdigit():
            promise = int(line[1:-1])
            continue
        if line.startswith(">>> "):
            found.append([promise, line[4:], None])
        else:
            found[-1][2] = line
    return found


class Examples(unittest.TestCase):
    def test_all(self):
        names, shown = {}, 0
        for promise, code, wanted in examples():
            with self.subTest(promise=promise, code=code):
                if wanted is None:
                    exec(code, names)
                    continue
                shown += 1
                try:
                    told = repr(eval(code, names))
                except errors.RingError as error:
                    name, fields = fields_of(error)
                    told = f"raises {name}({', '.join(f'{field}={value!r}' for field, value in fields.items())})"
                self.assertEqual(told, wanted)
        self.assertEqual(shown, 107)


if __name__ == "__main__":
    unittest.main()
