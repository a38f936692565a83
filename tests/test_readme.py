"""What the README shows is what the program returns."""

import doctest
import pathlib
import re
import unittest

README = pathlib.Path(__file__).parent.parent / "README.md"


class ReadmeTest(unittest.TestCase):
    def test_the_examples(self):
        blocks = [block for block in re.findall(r"```\n(.*?)```", README.read_text(), re.DOTALL) if ">>>" in block]
        self.assertGreater(len(blocks), 2)
        runner = doctest.DocTestRunner(verbose=False)
        for place, block in enumerate(blocks):
            told = []
            name = f"block {place}"
            runner.run(doctest.DocTestParser().get_doctest(block, {}, name, None, None), out=told.append)
            self.assertEqual(told, [])


if __name__ == "__main__":
    unittest.main()
