"""The examples of README.md, run one after another."""

import doctest
import unittest
from pathlib import Path

README = Path(__file__).resolve().parent.parent / "README.md"


class Examples(unittest.TestCase):
    def test_all_of_them(self):
        # Without the fences, which doctest takes for a part of what is expected.
        text = README.read_text().replace("\n```", "\n")
        example = doctest.DocTestParser().get_doctest(text, {}, "README.md", str(README), 0)
        self.assertGreater(len(example.examples), 30)
        found = []
        doctest.DocTestRunner(verbose=False).run(example, out=found.append)
        self.assertEqual(found, [])


if __name__ == "__main__":
    unittest.main()
