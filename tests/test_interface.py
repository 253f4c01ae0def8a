"""What holds of all functions: kinds, nothing changed, nothing kept, nothing printed or imported."""

import ast
import contextlib
import inspect
import io
import itertools
import pathlib
import unittest

import samples
from seenonway import nets
from seenonway.nets import apart, classes, distance, exits, least, seen, two, walk

PACKAGE = pathlib.Path(__file__).resolve().parent.parent / "seenonway"
WORDS = ([], [1, 2, 0, 9], [1] * 30, [1] * 31, [2] * 32)


INTERFACE = {
    "exits": ["n", "u", "net"],
    "walk": ["n", "u", "net", "word"],
    "seen": ["n", "u", "net", "word"],
    "apart": ["n", "u", "v", "net"],
    "classes": ["n", "net"],
    "distance": ["n", "u", "v", "net"],
    "two": ["n", "m", "u", "v", "net", "second"],
    "least": ["n", "net"],
}


def calls():
    """Of many calls, good and refused: the function, and what is handed in."""
    yield from calls_with_one_net()
    yield from calls_with_two_nets()


def calls_with_two_nets():
    seconds = (samples.ONE, samples.LINK, samples.RING, samples.OPPOSITE_ALIKE_RING, samples.CHAIN_OF_SEVEN,
               samples.NO_NETS["eleven links"], samples.NO_NETS["two parts"])
    for n, net in list(samples.ORDINARY + samples.SPECIAL) + list(samples.NO_NETS.values()):
        for m, second in seconds:
            for u, v in itertools.product((0, max(n - 1, 0), n), (0, m - 1, m)):
                yield two, (n, m, u, v, net, second)
                yield two, (m, n, v, u, second, net)


def calls_with_one_net():
    for n, net in list(samples.ORDINARY + samples.SPECIAL) + list(samples.NO_NETS.values()):
        yield classes, (n, net)
        yield least, (n, net)
        places = range(min(n, 8) + 1)
        for u in places:
            yield exits, (n, u, net)
            for word in WORDS:
                yield walk, (n, u, net, word)
                yield seen, (n, u, net, word)
            for v in places:
                yield apart, (n, u, v, net)
                yield distance, (n, u, v, net)


class Kinds(unittest.TestCase):
    def test_every_function_is_there_with_its_arguments(self):
        for name, arguments in INTERFACE.items():
            parameters = inspect.signature(getattr(nets, name)).parameters
            self.assertEqual(list(parameters), arguments)
            # Nothing else than told is handed in, and all that's told must be.
            self.assertEqual({parameter.default for parameter in parameters.values()}, {inspect.Parameter.empty})

    def test_every_function_is_called_here(self):
        self.assertEqual({function.__name__ for function, given in calls()}, set(INTERFACE))

    def test_by_name(self):
        self.assertEqual(exits(n=2, u=0, net=[0, 1]), [1, 1, 0])
        self.assertEqual(walk(n=2, u=0, net=[0, 1], word=[1]), [2, 0, 1])
        self.assertEqual(seen(n=2, u=0, net=[0, 1], word=[1]), [3, 1, 1, 1])
        self.assertEqual(apart(n=3, u=0, v=1, net=[0, 1, 1, 2]), [0])
        self.assertEqual(classes(n=2, net=[0, 1]), [2, 0, 0])
        self.assertEqual(distance(n=3, u=0, v=2, net=[0, 1, 1, 2]), [2])
        self.assertEqual(two(n=2, m=3, u=0, v=1, net=[0, 1], second=[0, 1, 1, 2]), [0])
        self.assertEqual(least(n=2, net=[0, 1]), [1, 0, 1, 0, 0])

    def test_answers_are_lists_of_int(self):
        for function, given in calls():
            answer = function(*given)
            self.assertIs(type(answer), list)
            self.assertEqual({type(number) for number in answer}, {int}, given)

    def test_lengths_of_answers(self):
        for function, given in calls():
            answer = function(*given)
            if answer[0] < 0 or function in (apart, distance, two):
                self.assertEqual(len(answer), 1)
            elif function is exits:
                self.assertEqual(len(answer), 1 + 2 * answer[0])
            elif function is least:
                behind = 1
                for _ in range(answer[0]):
                    behind += 2 + 2 * answer[behind + 1]
                self.assertEqual(len(answer), behind)
            else:
                self.assertEqual(len(answer), 1 + answer[0])


class NothingChangedNothingKept(unittest.TestCase):
    def test_lists_are_the_same_after_the_call(self):
        for function, given in calls():
            handed = [list(thing) if isinstance(thing, list) else thing for thing in given]
            function(*handed)
            self.assertEqual(handed, list(given))

    def test_lists_are_not_changed_for_a_while_either(self):
        for function, given in calls():
            handed = [samples.Unchangeable(thing) if isinstance(thing, list) else thing for thing in given]
            self.assertEqual(function(*handed), function(*given))

    def test_answer_is_not_what_was_handed_in(self):
        net, word = [0, 1], [1]
        for answer in (exits(2, 0, net), walk(2, 0, net, word), seen(2, 0, net, word), apart(2, 0, 1, net),
                       classes(2, net), distance(2, 0, 1, net), two(2, 2, 0, 1, net, net), least(2, net)):
            answer.append(7)
        self.assertEqual((net, word), ([0, 1], [1]))

    def test_called_again_as_if_for_the_first_time(self):
        first = [function(*given) for function, given in calls()]
        for answer in [function(*given) for function, given in calls()]:
            answer.clear()
        again = [function(*given) for function, given in reversed(list(calls()))]
        self.assertEqual(first, again[::-1])


class NothingPrintedNothingImported(unittest.TestCase):
    def test_prints_nothing(self):
        out, err = io.StringIO(), io.StringIO()
        with contextlib.redirect_stdout(out), contextlib.redirect_stderr(err):
            for function, given in calls():
                function(*given)
        self.assertEqual((out.getvalue(), err.getvalue()), ("", ""))

    def test_imports_nothing(self):
        for file in PACKAGE.glob("*.py"):
            for node in ast.walk(ast.parse(file.read_text(encoding="ascii"))):
                self.assertNotIsInstance(node, (ast.Import, ast.ImportFrom), file)


if __name__ == "__main__":
    unittest.main()
