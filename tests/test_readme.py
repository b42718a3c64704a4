"""The examples of README.md, run one line after the other."""

import pathlib
import re
import unittest

README = pathlib.Path(__file__).resolve().parent.parent / "README.md"


def told_of(comment):
    """What a comment says that comes about; a remark may stand behind it."""
    return comment.partition(": calls of")[0].strip()


class ReadmeTest(unittest.TestCase):
    def test_examples(self):
        names = {}
        checked = 0
        for block in re.findall("```python\n(.*?)```", README.read_text(encoding="utf-8"), re.DOTALL):
            for line in block.splitlines():
                code, _, comment = line.partition(" # ")
                with self.subTest(line=line):
                    try:
                        found = eval(code.strip() or "None", names)
                    except SyntaxError:
                        exec(code.strip(), names)
                        found = eval(code.partition("=")[0], names) if comment else None
                    if comment:
                        self.assertEqual(repr(found), told_of(comment))
                        checked += 1
        self.assertGreater(checked, 60)


if __name__ == "__main__":
    unittest.main()
