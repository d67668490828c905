"""Tests of README.md: each example tells what the remark behind it says."""

import pathlib
import re
import unittest

README = pathlib.Path(__file__).resolve().parent.parent / "README.md"


def told(expression, names):
    """What an example tells, as it is shown, or which refusal it raises."""
    try:
        return repr(eval(expression, names))
    except ValueError as refusal:
        return f"raises {type(refusal).__name__}"


class Examples(unittest.TestCase):
    def test_each_example_tells_its_remark(self):
        blocks = re.findall(r"```python\n(.*?)```", README.read_text(encoding="ascii"), re.DOTALL)
        self.assertGreater(len(blocks), 5)
        for block in blocks:
            names = {}
            plain = [row for row in block.split("\n") if not re.match(r"(try:|except |    )", row)]
            for row in plain:
                expression, sign, remark = row.partition("  # ")
                if sign:
                    shown = told(expression.strip(), names)
                    with self.subTest(row=row):
                        self.assertEqual(remark[:len(shown)], shown)
                        self.assertRegex(remark[len(shown):], r"\A(: |\Z)")
                else:
                    exec(row, names)


if __name__ == "__main__":
    unittest.main()
