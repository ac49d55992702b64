"""The examples of sections 3 to 15, as they stand in the document: examples.txt has them, word by word.

The examples of section 8 go on with three Talks of section 7, which stand ahead of them.
"""

import importlib
import pathlib
import unittest

FILES = ("talks", "closures", "partings", "risings", "floods", "sure", "fords", "looks", "prices", "great", "board",
         "texts", "desk")
TEXT = (pathlib.Path(__file__).resolve().parent / "examples.txt").read_text(encoding="ascii")
GIVEN = {"talks": 6, "closures": 7, "partings": 6, "risings": 7, "floods": 5, "sure": 6, "fords": 12, "looks": 5,
         "prices": 3, "great": 3, "board": 3, "texts": 2, "desk": 2}
REFUSED = {"talks": 3, "closures": 2, "partings": 3, "risings": 3, "floods": 3, "sure": 2, "fords": 2, "looks": 2,
           "prices": 1, "great": 1, "board": 3, "texts": 2, "desk": 1}


def sections():
    """Of each section its rows."""
    found = {}
    for row in TEXT.splitlines():
        if row.startswith("# "):
            rows = found.setdefault(row[2:], [])
        else:
            rows.append(row)
    return found


def names():
    """All names that the examples may use."""
    modules = [importlib.import_module(f"lastfords.{name}") for name in FILES]
    return {name: value for module in modules for name, value in vars(module).items() if not name.startswith("_")}


def done(row, known):
    """What the row gives, None for a statement."""
    try:
        code = compile(row, "row", "eval")
    except SyntaxError:
        exec(row, known)
        return None
    return eval(code, known)


def answer(row, known):
    """The repr of what the row gives, or how it is refused; None for a statement and for what gives None."""
    try:
        found = done(row, known)
    except (LookupError, ValueError) as error:
        told = ", ".join(f"{name}={value!r}" for name, value in vars(error).items())
        return f"raises {type(error).__name__}({told})"
    return None if found is None else repr(found)


class DocumentTest(unittest.TestCase):

    def check(self, section):
        known = names()
        given, refused = 0, 0
        rows = sections()[section]
        for place, row in enumerate(rows):
            if not row.startswith(">>> "):
                continue
            found = answer(row[4:], known)
            expected = rows[place + 1] if place + 1 < len(rows) else ">>> "
            if expected.startswith(">>> "):
                self.assertIsNone(found, row)
            elif expected.startswith("raises "):
                self.assertEqual(found, expected, row)
                refused += 1
            else:
                self.assertEqual(found, repr(eval(expected)), row)
                given += 1
        self.assertEqual((given, refused), (GIVEN[section], REFUSED[section]))

    def test_there_are_examples_of_each_file(self):
        self.assertEqual(tuple(sections()), FILES)

    def test_talks(self):
        self.check("talks")

    def test_closures(self):
        self.check("closures")

    def test_partings(self):
        self.check("partings")

    def test_risings(self):
        self.check("risings")

    def test_floods(self):
        self.check("floods")

    def test_sure(self):
        self.check("sure")

    def test_fords(self):
        self.check("fords")

    def test_looks(self):
        self.check("looks")

    def test_prices(self):
        self.check("prices")

    def test_great(self):
        self.check("great")

    def test_board(self):
        self.check("board")

    def test_texts(self):
        self.check("texts")

    def test_desk(self):
        self.check("desk")


if __name__ == "__main__":
    unittest.main()
