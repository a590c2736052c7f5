"""What the interface says of every call."""

import contextlib
import inspect
import io
import unittest

from strictfilm import films
from tests.builder import EARLIEST, GREATEST, LATEST, LEAST, film, plentiful

RIGHT = plentiful()
WRONG = RIGHT[:-1]
# Each call with its arguments ahead of the file: what is answered, and every refusal.
ASKED = [
    (films.look, ()),
    (films.track, (0, GREATEST)),
    (films.track, (2, 6)),
    (films.track, (3, GREATEST)),
    (films.track, (LEAST, LEAST)),
    (films.track, (0, 5)),
    (films.frame, (0, GREATEST)),
    (films.frame, (9, 3)),
    (films.frame, (10, GREATEST)),
    (films.frame, (LEAST, LEAST)),
    (films.frame, (0, 2)),
    (films.find, (1, LATEST)),
    (films.find, (1, -1)),
    (films.find, (200, LATEST)),
    (films.find, (LEAST, EARLIEST)),
]


class Untouchable(list):
    """A list that can't be changed, not for a while either."""

    def refuse(self, *given, **named):
        raise AssertionError("what is handed in is changed")

    __setitem__ = __delitem__ = __iadd__ = __imul__ = refuse
    append = extend = insert = pop = remove = clear = reverse = sort = refuse


def answers():
    return [call(*given, file) for call, given in ASKED for file in (RIGHT, WRONG, film(), [])]


class CallsTest(unittest.TestCase):

    def test_names_and_order_of_arguments(self):
        told = {
            films.look: ["file"],
            films.track: ["k", "most", "file"],
            films.frame: ["k", "most", "file"],
            films.find: ["track", "time", "file"],
        }
        for call, names in told.items():
            self.assertEqual(list(inspect.signature(call).parameters), names)

    def test_wrong_file_before_all_else(self):
        for call, given in ASKED:
            for file in (WRONG, RIGHT + [0], []):
                with self.subTest(call=call, given=given):
                    self.assertEqual(call(*given, file), [-1])

    def test_kinds(self):
        for answer in answers():
            self.assertIs(type(answer), list)
            self.assertEqual([type(given) for given in answer], [int] * len(answer))

    def test_refusals_are_a_number_alone(self):
        for answer in answers():
            if answer[0] < 0:
                self.assertEqual(len(answer), 1)

    def test_what_is_handed_in_stays(self):
        for call, given in ASKED:
            for file in (RIGHT, WRONG, film(), []):
                handed = list(file)
                with self.subTest(call=call, given=given):
                    self.assertEqual(call(*given, Untouchable(file)), call(*given, handed))
                    self.assertEqual(handed, file)

    def test_a_second_call_answers_as_the_first(self):
        first = answers()
        self.assertEqual(answers(), first)
        for call, given in reversed(ASKED):
            answer = call(*given, RIGHT)
            call(*given, WRONG)
            call(*given, film())
            self.assertEqual(call(*given, RIGHT), answer)

    def test_an_answer_changed_by_its_owner_changes_no_other(self):
        first = answers()
        for answer in answers():
            answer.append(5)
            answer[0] += 1
        self.assertEqual(answers(), first)
        self.assertEqual(RIGHT, plentiful())

    def test_nothing_is_printed(self):
        said = io.StringIO()
        with contextlib.redirect_stdout(said), contextlib.redirect_stderr(said):
            answers()
        self.assertEqual(said.getvalue(), "")
