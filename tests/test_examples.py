import doctest
import pathlib
import unittest

FOLDER = pathlib.Path(__file__).resolve().parent


class Examples(unittest.TestCase):
    def run_examples(self, path):
        # A fence directly below an example would be taken for a part of what is expected.
        text = path.read_text(encoding="utf-8").replace("```", "")
        examples = doctest.DocTestParser().get_doctest(text, {}, path.name, str(path), 0)
        result = doctest.DocTestRunner().run(examples)
        self.assertGreater(result.attempted, 0)
        self.assertEqual(result.failed, 0)

    def test_the_examples_of_the_readme(self):
        self.run_examples(FOLDER.parent / "README.md")

    def test_the_examples_of_the_document(self):
        self.run_examples(FOLDER / "examples.txt")


if __name__ == "__main__":
    unittest.main()
