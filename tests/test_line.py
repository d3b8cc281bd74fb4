"""The interface: the list of calls, what is given back, and what is left as it was."""

import contextlib
import io
import os
import subprocess
import sys
import unittest

from tests.helper import FAR, NUMBER_OF, ODD_ONE, encode, last, run
from twoaskedapart.plans import answers

NOT_BEGIN = [
    ("wins", 0, 0, 0, 0, 0), ("odd", 0, 0, 0), ("counts", 0, 0, 0), ("value", []), ("value", [0, 0]),
    ("value", [FAR] * 10), ("best",), ("reply", []), ("reply", [0]), ("reply", [9] * 10), ("replyto", []),
    ("replyto", [0]), ("replyto", [9] * 10), ("plans", 0), ("nth", 0, 0), ("perfect",), ("core",), ("told", 1),
    ("twice",), ("swap",), ("pair", 0, 0), ("game",),
]

# Each is refused in the game of ODD_ONE, and each would change it if it weren't.
REFUSED = [
    ("begin", 0, 1, 1, 1), ("begin", 1, 4, 1, 1), ("begin", 1, 1, 5, 1), ("begin", FAR, FAR, FAR, FAR),
    ("wins", 0, 0, 0, 0, 2), ("wins", 2, 0, 0, 0, 1), ("wins", 0, 2, 0, 0, 1), ("wins", 0, 0, 2, 0, 1),
    ("wins", 0, 0, 0, 2, 1), ("odd", 0, 0, 2), ("odd", 2, 0, 1), ("odd", 0, 2, 1), ("counts", 0, 0, 100),
    ("counts", 2, 0, 3), ("counts", 0, FAR, 3), ("value", [0, 0, 0]), ("value", [2, 0, 0, 0]), ("reply", [0]),
    ("reply", [0, 2]), ("replyto", [0, 0, 0]), ("replyto", [2, 0]), ("nth", 3, 8), ("nth", 2, 0), ("nth", FAR, FAR),
    ("told", 0), ("told", 4), ("told", FAR), ("pair", 2, 0), ("pair", 0, 2), ("pair", FAR, FAR),
]

ASKED = [
    ("best",), ("plans", 1), ("plans", 3), ("value", [0, 1, 0, 0]), ("reply", [1, 0]), ("replyto", [1, 1]),
    ("nth", 3, 5), ("perfect",), ("core",), ("told", 1), ("told", 2), ("twice",), ("pair", 0, 0), ("pair", 0, 1),
    ("pair", 1, 0), ("pair", 1, 1), ("game",), ("swap",), ("game",), ("pair", 1, 1), ("swap",),
    ("counts", 0, 0, 1), ("counts", 0, 1, 1), ("counts", 1, 0, 1), ("counts", 1, 1, 1),
]


class NotBegun(unittest.TestCase):
    def test_all_but_begin(self):
        self.assertEqual({call[0] for call in NOT_BEGIN} | {"begin"}, set(NUMBER_OF))
        for call in NOT_BEGIN:
            self.assertEqual(run([call]), [[-11]])
        self.assertEqual(run(NOT_BEGIN), [[-11]] * len(NOT_BEGIN))

    def test_a_refused_begin_is_none(self):
        self.assertEqual(run([("begin", 1, 1, 1, 5)] + NOT_BEGIN), [[-22]] + [[-11]] * len(NOT_BEGIN))

    def test_ahead_of_the_other_refusals(self):
        for call in [("wins", 9, 9, 9, 9, 9), ("wins", FAR, FAR, FAR, FAR, FAR), ("odd", 9, 9, 9),
                     ("counts", 9, 9, 100), ("value", [9]), ("reply", [9]), ("replyto", [9]), ("nth", FAR, FAR),
                     ("told", 0), ("told", 4), ("told", FAR), ("pair", 9, 9), ("pair", FAR, FAR)]:
            self.assertEqual(run([call]), [[-11]])
            self.assertEqual(run([("begin", 0, 0, 0, 0), call]), [[-22], [-11]])

    def test_twice_and_core_ahead_of_what_is_too_many_or_none(self):
        calls = [("begin", 4, 4, 5, 5), ("twice",), ("core",), ("nth", 0, 0), ("swap",), ("game",)]
        self.assertEqual(run(calls), [[-22]] + [[-11]] * 5)

    def test_begun_after_refusals(self):
        calls = NOT_BEGIN + [("begin", 1, 1, 1, 1), ("best",)]
        self.assertEqual(run(calls)[-2:], [[0], [0, 1, 0, 0]])


class SeveralRefusals(unittest.TestCase):
    def test_no_such_is_first(self):
        for call in [("wins", 2, 0, 0, 0, 2), ("wins", 0, 2, 0, 0, 2), ("wins", 0, 0, 2, 0, 2),
                     ("wins", 0, 0, 0, 2, 2), ("odd", 2, 0, 2), ("odd", 0, 2, 2), ("counts", 2, 0, 100),
                     ("counts", 0, 2, FAR), ("wins", FAR, FAR, FAR, FAR, FAR)]:
            self.assertEqual(last(*ODD_ONE, call), [-2])


class RefusedChangesNothing(unittest.TestCase):
    def test_one_by_one(self):
        for call in REFUSED:
            answered = run(ODD_ONE + [call] + ASKED)
            self.assertLess(answered[5][0], 0)
            self.assertEqual(len(answered[5]), 1)
            self.assertEqual(answered[6:], run(ODD_ONE + ASKED)[5:])

    def test_all_together(self):
        answered = run(ODD_ONE + REFUSED + ASKED)
        self.assertEqual(answered[5 + len(REFUSED):], run(ODD_ONE + ASKED)[5:])

    def test_too_many_and_none(self):
        told = [("begin", 1, 2, 3, 2), ("wins", 0, 0, 2, 1, 1), ("wins", 0, 1, 2, 0, 1), ("counts", 0, 1, 6)]
        asked = [("game",), ("pair", 0, 0), ("pair", 0, 1), ("best",), ("perfect",)]
        answered = run(told + [("twice",), ("core",), ("nth", 7, 1)] + asked)[4:]
        self.assertEqual(answered[:3], [[-28], [-33], [-33]])
        self.assertEqual(answered[3:], run(told + asked)[4:])


class TheList(unittest.TestCase):
    def test_form_of_what_is_given_back(self):
        self.assertEqual(answers([5]), [1, -11])
        self.assertEqual(answers([0, 1, 1, 1, 1]), [1, 0])
        self.assertEqual(answers([0, 1, 1, 2, 2, 2, 0, 0, 1, 5, 4, 2, 1, 1, 6, 1, 1, 7, 0, 8, 1]),
                         [1, 0, 1, 0, 4, 1, 1, 0, 1, 2, 0, 1, 2, 1, 0, 1, -22, 2, 2, 4])

    def test_form_of_the_other_calls(self):
        # An odd one among three evens, then nth 3 1, perfect, core, told 2, twice, swap, pair 1 0, game, told 0.
        calls = [0, 2, 2, 2, 2, 2, 0, 0, 0, 2, 0, 1, 0, 2, 1, 0, 0, 2, 1, 1, 1,
                 9, 3, 1, 10, 11, 12, 2, 13, 14, 15, 1, 0, 16, 12, 0]
        self.assertEqual(answers(calls), [1, 0] * 5 + [
            5, 4, 0, 0, 0, 1, 1, 0, 9, 4, 0, 0, 0, 1, 1, 0, 1, 1, 2, 4, 4, 2, 10, 16, 1, 0, 5, 1, 1, 0, 0, 1,
            6, 2, 2, 2, 2, 4, 4, 1, -22])

    def test_rows_may_look_like_calls(self):
        calls = [("begin", 1, 1, 4, 4), ("value", [0, 3]), ("value", [0, 1, 1, 1, 1]), ("reply", [3]), ("best",)]
        self.assertEqual(run(calls), [[0], [0, 1], [-22], [0, 0], [0, 1, 0, 0]])

    def test_whole_numbers_in_a_list(self):
        given = answers(encode(ODD_ONE + REFUSED + ASKED))
        self.assertIs(type(given), list)
        self.assertEqual({type(number) for number in given}, {int})

    def test_what_is_handed_in_stays(self):
        calls = encode(ODD_ONE + REFUSED + ASKED)
        before = list(calls)
        answers(calls)
        self.assertEqual(calls, before)

    def test_nothing_is_written_to_what_is_handed_in(self):
        class Watched(list):
            def refuse(self, *told, **named):
                raise AssertionError("the list was to be changed")
            append = extend = insert = pop = remove = clear = sort = reverse = refuse
            __setitem__ = __delitem__ = __iadd__ = __imul__ = refuse

        calls = encode(ODD_ONE + REFUSED + ASKED)
        self.assertEqual(answers(Watched(calls)), answers(calls))

    def test_what_is_given_back_is_free(self):
        calls = encode(ODD_ONE + ASKED)
        given = answers(calls)
        expected = list(given)
        given.clear()
        self.assertEqual(answers(calls), expected)

    def test_twice_alike(self):
        calls = encode(ODD_ONE + REFUSED + ASKED)
        self.assertEqual(answers(calls), answers(calls))

    def test_nothing_is_kept(self):
        answers(encode(ODD_ONE))
        self.assertEqual(run([("best",)]), [[-11]])
        self.assertEqual(run([("begin", 2, 2, 2, 2), ("best",)]), [[0], [0, 4, 0, 0, 0, 0]])


class NothingElse(unittest.TestCase):
    def test_prints_nothing(self):
        shown = io.StringIO()
        with contextlib.redirect_stdout(shown), contextlib.redirect_stderr(shown):
            answers(encode(ODD_ONE + REFUSED + ASKED))
        self.assertEqual(shown.getvalue(), "")

    def test_imports_and_reads_nothing(self):
        program = (
            "import sys\n"
            "before = set(sys.modules)\n"
            "from twoaskedapart.plans import answers\n"
            "seen = []\n"
            "sys.addaudithook(lambda name, told: seen.append(name) if name in ('open', 'import') else None)\n"
            f"answers({encode(ODD_ONE + REFUSED + ASKED)!r})\n"
            "print(sorted(set(sys.modules) - before), len(seen))\n"
        )
        root = os.path.dirname(os.path.dirname(os.path.abspath(__file__)))
        done = subprocess.run([sys.executable, "-c", program], cwd=root, capture_output=True, text=True, check=True)
        self.assertEqual(done.stdout, "['twoaskedapart', 'twoaskedapart.plans'] 0\n")


if __name__ == "__main__":
    unittest.main()
