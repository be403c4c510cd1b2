"""The examples of README.md do what they say."""

import doctest
import unittest
from pathlib import Path


class Examples(unittest.TestCase):
    def test_all(self):
        text = (Path(__file__).resolve().parent.parent / "README.md").read_text(encoding="utf-8")
        lines = ["" if line.startswith("```") else line for line in text.split("\n")]
        examples = doctest.DocTestParser().get_doctest("\n".join(lines), {}, "README.md", None, 0)
        result = doctest.DocTestRunner().run(examples)
        self.assertGreater(result.attempted, 5)
        self.assertEqual(result.failed, 0)


if __name__ == "__main__":
    unittest.main()
