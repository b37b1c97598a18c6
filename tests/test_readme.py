"""The examples of README.md run, and every module of the package is named there."""

import pathlib
import re
import unittest

ROOT = pathlib.Path(__file__).resolve().parent.parent
TEXT = (ROOT / "README.md").read_text(encoding="utf-8")


class ReadmeTests(unittest.TestCase):
    def test_the_examples(self):
        examples = re.findall("```python\n(.*?)```", TEXT, re.DOTALL)
        self.assertGreater(len(examples), 3)
        for example in examples:
            exec(compile(example, "README.md", "exec"), {})

    def test_every_module_is_named(self):
        for path in (ROOT / "truemill").glob("*.py"):
            if path.stem != "__init__":
                self.assertIn("`truemill." + path.stem + "`", TEXT)


if __name__ == "__main__":
    unittest.main()
