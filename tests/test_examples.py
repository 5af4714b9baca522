"""The examples of the document, word for word, from examples.txt."""

import os
import unittest

from evenlater import errors

PROMPT = ">>> "


def read_examples():
    """The examples as pairs (code, answer), answer None where no answer is told."""
    path = os.path.join(os.path.dirname(os.path.abspath(__file__)), "examples.txt")
    with open(path, encoding="utf-8") as lines:
        rows = [line.rstrip("\n") for line in lines if line.strip()]
    examples = []
    for row in rows:
        if row.startswith(PROMPT):
            examples.append((row[len(PROMPT):], None))
        else:
            examples[-1] = (examples[-1][0], row)
    return examples


def told(error):
    fields = ", ".join(f"{name}={value!r}" for name, value in vars(error).items())
    return f"raises {type(error).__name__}({fields})"


def answer_of(code, names):
    try:
        return repr(eval(code, names))
    except errors.LaterError as error:
        return told(error)


class Examples(unittest.TestCase):
    def test_each_example(self):
        names = {}
        examples = read_examples()
        self.assertGreater(len(examples), 10)
        for code, answer in examples:
            with self.subTest(code=code):
                if answer is None:
                    exec(code, names)
                else:
                    self.assertEqual(answer_of(code, names), answer)


if __name__ == "__main__":
    unittest.main()
