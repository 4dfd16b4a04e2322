"""The example in README.md answers what stands beside it."""

import pathlib
import re
import unittest


class Example(unittest.TestCase):
    def test_the_example(self):
        readme = (pathlib.Path(__file__).parent.parent / "README.md").read_text(encoding="utf-8")
        code = re.search(r"```python\n(.*?)```", readme, re.DOTALL)[1]
        names = {}
        exec(code, names)
        told = re.findall(r"^(\w+\(.*\)) +# (\[.*?\])", code, re.MULTILINE)
        self.assertGreater(len(told), 3)
        for call, answer in told:
            self.assertEqual(repr(eval(call, names)), answer, call)


if __name__ == "__main__":
    unittest.main()
