import contextlib
import inspect
import io
import unittest

import starcover.house
from helper import ask, begins, ends, feed, held, line, said, secret, spell, spelled, whole
from starcover.house import NoSuchCall, answers

CALLS = line(held(), secret(15, "abcd"), secret(0, "ab"), spell(15, "abcd"), feed("xab"), held(), whole("xabcd"),
             feed("cd 61"), feed("y" * 301), secret(1, "y"), spell(16, "y"), held(), whole("y" * 301), ends(), begins(),
             secret(1, "k"), feed("kkx"), whole("kkx"), ends(), held())


class Watched(list):
    """A list that may only be read."""

    def refuse(self, *given, **named):
        raise AssertionError("what was handed in is changed")

    append = extend = insert = pop = remove = clear = sort = reverse = refuse
    __setitem__ = __delitem__ = __iadd__ = __imul__ = refuse


class Interface(unittest.TestCase):
    def test_the_function_has_one_plain_argument(self):
        self.assertEqual(str(inspect.signature(answers)), "(calls)")
        self.assertEqual(answers.__module__, "starcover.house")
        self.assertEqual(starcover.house.answers(calls=[0]), [1, 0])

    def test_several_calls_answer_one_behind_another(self):
        self.assertEqual(answers([0]), [1, 0])
        self.assertEqual(answers([0, 3, 0]), [1, 0, 1, 0, 1, 0])
        self.assertEqual(answers([1, 1, 2, 97, 98, 2, 4, 120, 97, 98, 97, 3]),
                         [1, 1] + [5, 1, 120, 42, 42, 42] + [2, 2, 97])
        self.assertEqual(answers([1, 16, 1, 97, 2, 0, 1, 8, 1, 97, 2, 1, 5, 1, 1, 1, 98]),
                         [1, -1] + [1, 0] + [1, 0] + [2, 0, 5] + [1, -3])
        self.assertEqual(answers([4, 1, 1, 2, 97, 98, 2, 2, 120, 97, 4, 5, 3, 1, 107, 6, 3, 97, 98, 97, 4]),
                         [1, 0] + [1, 1] + [2, 1, 120] + [2, 1, 97] + [6, 2, 1, 107, 2, 54, 98] + [5, 3, 42, 42, 42, 97]
                         + [2, 1, 97])
        self.assertEqual(answers([5, 8, 1, 97, 6, 0, 5, 0, 0, 4]), [1, 0] + [1, 0] + [1, -1] + [1, 0])

    def test_a_refusal_is_alone(self):
        self.assertEqual(answers(secret(0, "ab")), [1, -1])
        self.assertEqual(answers(feed("x" * 301)), [1, -7])
        self.assertEqual(answers(line(feed("x"), secret(1, "ab"))), [2, 0, 120, 1, -3])
        self.assertEqual(answers(spell(0, "ab")), [1, -1])
        self.assertEqual(answers(whole("x" * 301)), [1, -7])

    def test_bytes_that_look_like_calls_are_bytes(self):
        self.assertEqual(ask(secret(1, [1, 3]), feed([0, 1, 2, 3]), feed([3, 1, 3]), ends())[1:],
                         [said(0, [0, 1, 2, 3]), said(0, [3, 42, 42, 42]), [2]])
        self.assertEqual(ask(spell(1, [4, 5, 6]), whole([6, 5, 4]), secret(1, [4, 5]), feed([6, 4]), held(), ends()),
                         [spelled([4, 5, 6]), said(3, [6, 5, 4]), [1], said(1, [6]), said(1, [4]), said(0, [4])])
        # What is refused is passed over whole.
        self.assertEqual(ask(spell(1, [3] * 20), whole([3] * 320), feed([3] * 320), secret(5, [3] * 20), held()),
                         [[-1], [-7], [-7], [-1], [0]])

    def test_there_is_no_eighth_call(self):
        with self.assertRaises(NoSuchCall):
            answers([7])

    def test_a_line_of_40_calls(self):
        calls = line(*[secret(15, f"aB{number}x") for number in range(5)], *[feed("aB3x42334") for unused in range(33)],
                     ends(), begins())
        self.assertEqual(answers(calls)[:10], [1, 6] * 5)
        self.assertEqual(answers(calls)[-2:], [1, 0])

    def test_what_is_handed_in_is_not_changed(self):
        calls = list(CALLS)
        answers(calls)
        self.assertEqual(calls, CALLS)
        self.assertEqual(answers(Watched(CALLS)), answers(CALLS))

    def test_nothing_is_kept(self):
        first = answers(list(CALLS))
        copy = list(first)
        first.clear()
        self.assertEqual(answers(list(CALLS)), copy)
        answers(line(secret(1, "ab"), feed("xa")))
        self.assertEqual(answers(feed("ab")), [3, 0, 97, 98])
        self.assertEqual(answers(secret(1, "b")), [1, 1])
        self.assertEqual(answers(ends()), [1, 0])
        self.assertEqual(answers(held()), [1, 0])
        self.assertEqual(answers(whole("ab")), [3, 2, 97, 98])

    def test_five_secrets_of_another_time_do_not_count(self):
        for unused in range(2):
            self.assertEqual(answers(line(*[secret(1, "a")] * 5)), [1, 1] * 5)

    def test_a_list_of_whole_numbers_is_given_back(self):
        given = answers(CALLS)
        self.assertIs(type(given), list)
        self.assertEqual({type(number) for number in given}, {int})

    def test_nothing_is_printed(self):
        out, err = io.StringIO(), io.StringIO()
        with contextlib.redirect_stdout(out), contextlib.redirect_stderr(err):
            answers(CALLS)
        self.assertEqual((out.getvalue(), err.getvalue()), ("", ""))


if __name__ == "__main__":
    unittest.main()
