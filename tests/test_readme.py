import pathlib
import re
import unittest

README = pathlib.Path(__file__).parent.parent / "README.md"


class ReadmeTest(unittest.TestCase):
    def test_each_told_answer_is_right(self):
        code = re.search(r"```python\n(.*?)```", README.read_text(), re.S).group(1)
        names = {}
        told = 0
        for line in code.splitlines():
            asked, mark, answer = line.partition("  # ")
            if mark:
                self.assertEqual(eval(asked, names), eval(answer.partition(":")[0], {}), line)
                told += 1
            else:
                exec(line, names)
        self.assertGreater(told, 0)


if __name__ == "__main__":
    unittest.main()
