"""The examples of README.md."""

import doctest
import pathlib
import re
import unittest

README = pathlib.Path(__file__).resolve().parent.parent / "README.md"


class TestExamples(unittest.TestCase):
    def test_they_give_what_they_tell(self):
        blocks = re.findall(r"```python\n(.*?)```", README.read_text("utf-8"), re.DOTALL)
        examples = doctest.DocTestParser().get_doctest("\n".join(blocks), {}, "README.md", None, 0)
        failed, tried = doctest.DocTestRunner(verbose=False).run(examples)
        self.assertEqual(failed, 0)
        self.assertGreater(tried, 10)


if __name__ == "__main__":
    unittest.main()
