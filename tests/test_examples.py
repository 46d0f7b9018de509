"""The examples that the interface gives, copied to examples.txt, each in a namespace of its own."""

import pathlib
import unittest

from waypapers import errors

EXAMPLES = pathlib.Path(__file__).resolve().parent / "examples.txt"


def blocks():
    """Return for each block of examples the file that it belongs to, and its statements with what they answer."""
    found = []
    for line in EXAMPLES.read_text(encoding="utf-8").split("\n"):
        if line.startswith("## "):
            found.append((line, []))
        elif line.startswith(">>> "):
            found[-1][1].append((line[4:], []))
        elif line:
            found[-1][1][-1][1].append(line)
    return found


class ExamplesTest(unittest.TestCase):
    def assert_answer(self, statement, answer, names):
        if answer.startswith("raises "):
            with self.assertRaises(getattr(errors, answer.removeprefix("raises "))):
                eval(statement, names)
        else:
            self.assertEqual(repr(eval(statement, names)), answer)

    def test_examples(self):
        files = set()
        for file, rows in blocks():
            names = {}
            for statement, answers in rows:
                with self.subTest(file=file, statement=statement):
                    if answers:
                        self.assert_answer(statement, "\n".join(answers), names)
                        files.add(file)
                    else:
                        exec(statement, names)
        self.assertEqual(len(files), 18)


if __name__ == "__main__":
    unittest.main()
