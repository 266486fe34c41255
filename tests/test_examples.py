"""The examples of the interface: examples.txt has them in their order, a "#" before each module's."""

import pathlib
import unittest

from soundtill.errors import TillError

EXAMPLES = pathlib.Path(__file__).with_name("examples.txt")


def examples():
    """Yields the code of each example and the line that it shows, None if it shows none."""
    lines = [line for line in EXAMPLES.read_text().split("\n") if line and not line.startswith("#")]
    for at, line in enumerate(lines):
        if line.startswith(">>> "):
            shown = lines[at + 1] if at + 1 < len(lines) else ">>> "
            yield line[4:], None if shown.startswith(">>> ") else shown


def answer(code, names):
    """What the code shows: the text of its value, or the error that it raises."""
    try:
        try:
            value = eval(code, names)
        except SyntaxError:
            exec(code, names)
            value = None
    except TillError as error:
        return f"raises {type(error).__name__}({', '.join(repr(field) for field in vars(error).values())})"
    return None if value is None else repr(value)


class Examples(unittest.TestCase):
    def test_all(self):
        names, count = {}, 0
        for code, shown in examples():
            self.assertEqual(answer(code, names), shown, code)
            count += 1
        self.assertGreater(count, 0)


if __name__ == "__main__":
    unittest.main()
