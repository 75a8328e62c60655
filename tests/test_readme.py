"""The examples of README.md give what stands beside them."""

import pathlib
import re
import unittest

README = pathlib.Path(__file__).resolve().parent.parent / "README.md"


class ReadmeTest(unittest.TestCase):
    def test_examples(self):
        names, told = {}, 0
        for block in re.findall("```python\n(.*?)```", README.read_text(encoding="utf-8"), re.DOTALL):
            for line in block.splitlines():
                code, _, result = line.partition(" # ")
                if result and " = " not in code:
                    told += 1
                    self.assertTrue(result.startswith(repr(eval(code.strip(), names))), line)
                else:
                    exec(code, names)
        self.assertGreater(told, 10)


if __name__ == "__main__":
    unittest.main()
