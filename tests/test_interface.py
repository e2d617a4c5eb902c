"""The interface: names, arguments and kinds; what is handed in stays; nothing is kept; nothing is printed."""

import ast
import builtins
import contextlib
import inspect
import io
import pathlib
import unittest

import powerfill
from powerfill.powers import pw_solve
from tests.helper import GIVEN, NOTHING, Numbers, product, write


class Unchangeable(list):
    """A list that fails as soon as anything would change it, if only for a while."""

    def refuse(self, *given):
        raise AssertionError("what was handed in is changed")

    __setitem__ = __delitem__ = __iadd__ = __imul__ = refuse
    append = extend = insert = pop = remove = clear = reverse = sort = refuse


def calls():
    """Calls of all forms of answer, as (n, e)."""
    numbers = Numbers(21)
    made = [
        (0, write([])),
        (25, write([])),
        (2 ** 63 - 1, write([NOTHING])),
        (1, write([product([2], [1])])),
        (3, write([product([1, -GIVEN]), product([0, 1, -GIVEN])])),
        (2, write([product([2, 3])])),
        (24, write([NOTHING] * 300)),
        (1, write([product([GIVEN + 1])])),
        (1, write([product([0, 1])])),
    ]
    for k in range(60):
        n = numbers.between(1, 5)
        made.append((n, write(numbers.system(n, numbers.between(1, 4), 9))))
    return made


class Interface(unittest.TestCase):
    def test_names_and_arguments(self):
        self.assertEqual(list(inspect.signature(pw_solve).parameters), ["n", "e"])
        self.assertEqual(pw_solve(n=0, e=[0]), [2, 0])

    def test_answers_are_lists_of_whole_numbers(self):
        for n, e in calls():
            told = pw_solve(n, e)
            self.assertIs(type(told), list)
            self.assertEqual({type(x) for x in told}, {int})

    def test_what_is_handed_in_stays(self):
        for n, e in calls():
            before = list(e)
            pw_solve(n, e)
            self.assertEqual(e, before)

    def test_what_is_handed_in_is_not_changed_for_a_while(self):
        for n, e in calls():
            self.assertEqual(pw_solve(n, Unchangeable(e)), pw_solve(n, e))

    def test_an_answer_is_the_callers_own(self):
        for n, e in calls():
            first = pw_solve(n, e)
            kept = list(first)
            for k in range(len(first)):
                first[k] = 99
            self.assertEqual(pw_solve(n, e), kept)

    def test_whatever_was_called_before(self):
        forth = [pw_solve(n, e) for n, e in calls()]
        back = [pw_solve(n, e) for n, e in reversed(calls())]
        self.assertEqual(forth, back[::-1])
        for told, (n, e) in zip(forth, calls()):
            self.assertEqual([pw_solve(n, e), pw_solve(n, e)], [told, told])

    def test_nothing_is_printed(self):
        out, err = io.StringIO(), io.StringIO()
        with contextlib.redirect_stdout(out), contextlib.redirect_stderr(err):
            for n, e in calls():
                pw_solve(n, e)
        self.assertEqual((out.getvalue(), err.getvalue()), ("", ""))


ALLOWED_NAMES = set("""len range enumerate zip min max sum abs sorted reversed int str bool list tuple dict isinstance
any all divmod""".split())


class Source(unittest.TestCase):
    def setUp(self):
        folder = pathlib.Path(powerfill.__file__).parent
        self.texts = {path.name: path.read_text(encoding="utf-8") for path in sorted(folder.glob("*.py"))}

    def test_the_files(self):
        self.assertEqual(list(self.texts), ["__init__.py", "powers.py"])

    def test_nothing_is_imported(self):
        for text in self.texts.values():
            for node in ast.walk(ast.parse(text)):
                self.assertNotIsInstance(node, (ast.Import, ast.ImportFrom))

    def test_names_are_its_own_or_allowed_ones(self):
        for text in self.texts.values():
            nodes = list(ast.walk(ast.parse(text)))
            own = {node.name for node in nodes if isinstance(node, ast.FunctionDef)}
            own |= {node.arg for node in nodes if isinstance(node, ast.arg)}
            own |= {node.id for node in nodes if isinstance(node, ast.Name) and isinstance(node.ctx, ast.Store)}
            used = {node.id for node in nodes if isinstance(node, ast.Name)}
            self.assertLessEqual(used - own, ALLOWED_NAMES)
            self.assertFalse(own & set(dir(builtins)))

    def test_sizes_and_signs(self):
        for text in self.texts.values():
            self.assertLess(len(text.splitlines()), 400)
            self.assertLessEqual(max(len(line) for line in text.splitlines()), 120)
            self.assertTrue(all(" " <= sign <= "~" or sign == "\n" for sign in text))
            for node in ast.walk(ast.parse(text)):
                if isinstance(node, ast.FunctionDef):
                    self.assertLessEqual(node.end_lineno - node.lineno + 1, 40)


if __name__ == "__main__":
    unittest.main()
