import re
import unittest
from pathlib import Path

README = Path(__file__).resolve().parent.parent / "README.md"
FILES = sorted(path.stem for path in (README.parent / "witnesslog").glob("*.py") if path.stem != "__init__")


class ReadmeTest(unittest.TestCase):
    def test_examples(self):
        text = README.read_text(encoding="utf-8")
        names = {}
        told = 0
        for block in re.findall(r"```python\n(.*?)```", text, re.S):
            for line in block.split("\n"):
                code, _, comment = line.partition("  #")
                value = self.run_line(code.strip(), names)
                wanted = comment.strip().split(": ")[0]
                if re.fullmatch(r"[\[({].*[\])}]|True|False|\d+", wanted) and " a " not in wanted:
                    if "plans" not in wanted:
                        self.assertEqual(value, eval(wanted, names), line)
                        told += 1
        self.assertGreater(told, 15)

    def run_line(self, code, names):
        found = re.match(r"from |([a-z_, ]+) = ", code)
        if found:
            exec(code, names)
            return eval(found.group(1), names) if found.group(1) else None
        return eval(code, names) if code else None

    def test_modules(self):
        text = README.read_text(encoding="utf-8")
        self.assertEqual(sorted(re.findall(r"^\| `([a-z_]+)` \|", text, re.M)), FILES)


if __name__ == "__main__":
    unittest.main()
