"""What holds of all functions: kinds, nothing changed, nothing kept, nothing printed or imported."""

import ast
import contextlib
import inspect
import io
import pathlib
import unittest

import samples
from seenonway import nets
from seenonway.nets import apart, classes, distance, exits, seen, walk

PACKAGE = pathlib.Path(__file__).resolve().parent.parent / "seenonway"
WORDS = ([], [1, 2, 0, 9], [1] * 30, [1] * 31, [2] * 32)


def calls():
    """Of many calls, good and refused: the function, and what is handed in."""
    for n, net in list(samples.ORDINARY + samples.SPECIAL) + list(samples.NO_NETS.values()):
        yield classes, (n, net)
        places = range(min(n, 8) + 1)
        for u in places:
            yield exits, (n, u, net)
            for word in WORDS:
                yield walk, (n, u, net, word)
                yield seen, (n, u, net, word)
            for v in places:
                yield apart, (n, u, v, net)
                yield distance, (n, u, v, net)


class Kinds(unittest.TestCase):
    def test_arguments(self):
        self.assertEqual(list(inspect.signature(nets.exits).parameters), ["n", "u", "net"])
        self.assertEqual(list(inspect.signature(nets.walk).parameters), ["n", "u", "net", "word"])
        self.assertEqual(list(inspect.signature(nets.seen).parameters), ["n", "u", "net", "word"])
        self.assertEqual(list(inspect.signature(nets.apart).parameters), ["n", "u", "v", "net"])
        self.assertEqual(list(inspect.signature(nets.classes).parameters), ["n", "net"])
        self.assertEqual(list(inspect.signature(nets.distance).parameters), ["n", "u", "v", "net"])

    def test_by_name(self):
        self.assertEqual(exits(n=2, u=0, net=[0, 1]), [1, 1, 0])
        self.assertEqual(walk(n=2, u=0, net=[0, 1], word=[1]), [2, 0, 1])
        self.assertEqual(seen(n=2, u=0, net=[0, 1], word=[1]), [3, 1, 1, 1])
        self.assertEqual(apart(n=3, u=0, v=1, net=[0, 1, 1, 2]), [0])
        self.assertEqual(classes(n=2, net=[0, 1]), [2, 0, 0])
        self.assertEqual(distance(n=3, u=0, v=2, net=[0, 1, 1, 2]), [2])

    def test_answers_are_lists_of_int(self):
        for function, given in calls():
            answer = function(*given)
            self.assertIs(type(answer), list)
            self.assertEqual({type(number) for number in answer}, {int}, given)

    def test_lengths_of_answers(self):
        for function, given in calls():
            answer = function(*given)
            if answer[0] < 0 or function in (apart, distance):
                self.assertEqual(len(answer), 1)
            elif function is exits:
                self.assertEqual(len(answer), 1 + 2 * answer[0])
            else:
                self.assertEqual(len(answer), 1 + answer[0])


class NothingChangedNothingKept(unittest.TestCase):
    def test_lists_are_the_same_after_the_call(self):
        for function, given in calls():
            handed = [list(thing) if isinstance(thing, list) else thing for thing in given]
            function(*handed)
            self.assertEqual(handed, list(given))

    def test_lists_are_not_changed_for_a_while_either(self):
        for function, given in calls():
            handed = [samples.Unchangeable(thing) if isinstance(thing, list) else thing for thing in given]
            self.assertEqual(function(*handed), function(*given))

    def test_answer_is_not_what_was_handed_in(self):
        net, word = [0, 1], [1]
        for answer in (exits(2, 0, net), walk(2, 0, net, word), seen(2, 0, net, word), apart(2, 0, 1, net),
                       classes(2, net), distance(2, 0, 1, net)):
            answer.append(7)
        self.assertEqual((net, word), ([0, 1], [1]))

    def test_called_again_as_if_for_the_first_time(self):
        first = [function(*given) for function, given in calls()]
        for answer in [function(*given) for function, given in calls()]:
            answer.clear()
        again = [function(*given) for function, given in reversed(list(calls()))]
        self.assertEqual(first, again[::-1])


class NothingPrintedNothingImported(unittest.TestCase):
    def test_prints_nothing(self):
        out, err = io.StringIO(), io.StringIO()
        with contextlib.redirect_stdout(out), contextlib.redirect_stderr(err):
            for function, given in calls():
                function(*given)
        self.assertEqual((out.getvalue(), err.getvalue()), ("", ""))

    def test_imports_nothing(self):
        for file in PACKAGE.glob("*.py"):
            for node in ast.walk(ast.parse(file.read_text(encoding="ascii"))):
                self.assertNotIsInstance(node, (ast.Import, ast.ImportFrom), file)


if __name__ == "__main__":
    unittest.main()
