"""The examples of README.md tell what the program tells."""

import pathlib
import re
import unittest

README = pathlib.Path(__file__).resolve().parent.parent / "README.md"


class Examples(unittest.TestCase):

    def test_examples(self):
        names = {}
        tried = 0
        for lines in re.findall(r"```python\n(.*?)```", README.read_text("utf-8"), re.DOTALL):
            for line in lines.splitlines():
                code, mark, wanted = line.partition("# ")
                if not mark:
                    exec(code, names)
                    continue
                told = repr(eval(code, names))
                self.assertTrue(re.match(re.escape(told) + r"([,;] |$)", wanted), (line, told))
                tried += 1
        self.assertGreater(tried, 20)


if __name__ == "__main__":
    unittest.main()
