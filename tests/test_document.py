"""All examples of the document, with the answers that stand there, if the document is beside the project."""

import pathlib
import re
import unittest

DOCUMENT = pathlib.Path(__file__).resolve().parent.parent.parent / "shared" / "DOC.md"


def examples():
    """Pairs of what is entered and what the document answers."""
    for block in re.findall(r"```\n(>>>.*?)```", DOCUMENT.read_text(encoding="utf-8"), re.DOTALL):
        for part in re.split(r"^>>> ", block, flags=re.MULTILINE)[1:]:
            entered, _, wanted = part.partition("\n")
            yield entered, wanted.strip()


def answer(entered, names):
    try:
        code = compile(entered, "example", "eval")
    except SyntaxError:
        exec(entered, names)
        return ""
    try:
        return repr(eval(code, names))
    except Exception as error:
        told = ", ".join(f"{name}={value!r}" for name, value in vars(error).items())
        return f"raises {type(error).__name__}({told})"


@unittest.skipUnless(DOCUMENT.is_file(), "the document is not there")
class DocumentTest(unittest.TestCase):

    def test_examples(self):
        names = {}
        count = 0
        for entered, wanted in examples():
            self.assertEqual(answer(entered, names), wanted, entered)
            count += 1
        self.assertGreater(count, 60)


if __name__ == "__main__":
    unittest.main()
