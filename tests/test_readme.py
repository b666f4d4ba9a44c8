"""The examples of README.md give what they show there."""

import doctest
import pathlib
import unittest

README = pathlib.Path(__file__).parent.parent / "README.md"


class Examples(unittest.TestCase):
    def test_all_of_them(self):
        # The lines that begin and end a block would be taken for what is shown.
        text = README.read_text(encoding="utf-8").replace("```", "")
        told = doctest.DocTestParser().get_doctest(text, {}, "README.md", str(README), 0)
        self.assertGreater(len(told.examples), 15)
        shown = []
        doctest.DocTestRunner(verbose=False).run(told, out=shown.append)
        self.assertEqual(shown, [])

    def test_all_modules_are_named(self):
        text = README.read_text(encoding="utf-8")
        stems = [path.stem for path in (README.parent / "truelevels").glob("*.py")]
        missing = [stem for stem in stems if f"`truelevels.{stem}`" not in text]
        self.assertEqual(missing, ["__init__"])


if __name__ == "__main__":
    unittest.main()
