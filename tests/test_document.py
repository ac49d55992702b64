"""The examples of sections 4 to 7, as they stand in the document: examples.txt has them, word by word."""

import pathlib
import unittest

import lastfords.closures
import lastfords.floods
import lastfords.partings
import lastfords.risings
import lastfords.talks

MODULES = (lastfords.talks, lastfords.closures, lastfords.partings, lastfords.risings, lastfords.floods)
TEXT = (pathlib.Path(__file__).resolve().parent / "examples.txt").read_text(encoding="ascii")
MANY = {"closures": 7, "partings": 6, "risings": 7, "floods": 5}
REFUSED = {"closures": 2, "partings": 3, "risings": 3, "floods": 3}


def sections():
    """Of each section its rows."""
    found = {}
    for row in TEXT.splitlines():
        if row.startswith("# "):
            rows = found.setdefault(row[2:], [])
        else:
            rows.append(row)
    return found


def names():
    """All names that the examples may use."""
    return {name: value for module in MODULES for name, value in vars(module).items() if not name.startswith("_")}


def answer(row, known):
    """The repr of what the row gives, or how it is refused; None for an assignment."""
    try:
        return repr(eval(row, known))
    except SyntaxError:
        exec(row, known)
        return None
    except (LookupError, ValueError) as error:
        told = ", ".join(f"{name}={value!r}" for name, value in vars(error).items())
        return f"raises {type(error).__name__}({told})"


class DocumentTest(unittest.TestCase):

    def check(self, section):
        known = names()
        given, refused = 0, 0
        rows = sections()[section]
        for place, row in enumerate(rows):
            if not row.startswith(">>> "):
                continue
            found = answer(row[4:], known)
            expected = rows[place + 1] if place + 1 < len(rows) else ">>> "
            if found is None:
                self.assertTrue(expected.startswith(">>> "), row)
            elif expected.startswith("raises "):
                self.assertEqual(found, expected, row)
                refused += 1
            else:
                self.assertEqual(found, repr(eval(expected)), row)
                given += 1
        self.assertEqual((given, refused), (MANY[section], REFUSED[section]))

    def test_closures(self):
        self.check("closures")

    def test_partings(self):
        self.check("partings")

    def test_risings(self):
        self.check("risings")

    def test_floods(self):
        self.check("floods")


if __name__ == "__main__":
    unittest.main()
