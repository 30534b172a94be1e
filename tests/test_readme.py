import doctest
import pathlib
import unittest

README = pathlib.Path(__file__).resolve().parent.parent / "README.md"


class ReadmeTest(unittest.TestCase):
    def test_examples(self):
        told = []
        example = doctest.DocTestParser().get_doctest(README.read_text("utf-8"), {}, "README", str(README), 0)
        results = doctest.DocTestRunner(verbose=False).run(example, out=told.append)
        self.assertEqual(results.failed, 0, "".join(told))
        self.assertGreater(results.attempted, 20)


if __name__ == "__main__":
    unittest.main()
