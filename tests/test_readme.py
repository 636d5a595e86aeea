"""The session that README.md shows."""

import doctest
import unittest
from pathlib import Path

README = Path(__file__).resolve().parent.parent / "README.md"


class ReadmeTest(unittest.TestCase):
    def test_session(self):
        # The closing fence would count as a part of the last answer.
        text = README.read_text(encoding="ascii").replace("```", "")
        session = doctest.DocTestParser().get_doctest(text, {}, "README.md", str(README), 0)
        outcome = doctest.DocTestRunner(verbose=False).run(session)
        self.assertGreater(outcome.attempted, 5)
        self.assertEqual(outcome.failed, 0)


if __name__ == "__main__":
    unittest.main()
