"""The interface: calls in one list, counts ahead, nothing changed and nothing kept."""

import unittest

from clinicdesk.clinic import answers
from helper import ASK_ALL, JOINED, PART, RECORD, feed, form, run


class InterfaceTest(unittest.TestCase):
    def test_each_answer_has_its_count_ahead(self):
        calls = feed("water ok\n") + PART + RECORD + form("water  ok") + feed("ask now\nwat")
        water = list(b"water ok")
        expected = [3, 1, 1, 0]
        expected += [2, 0, 0]
        expected += [1 + 9, 9] + water + [10]
        expected += [1 + 8, 8] + water
        expected += [1 + 1 + 8, 1, 8, 0, 0, 0, 1, 0, 1, 0, 9]
        self.assertEqual(answers(calls), expected)

    def test_each_call_alone(self):
        self.assertEqual(answers(feed("\n")), [2, 1, 0])
        self.assertEqual(answers(RECORD), [1, 0])
        self.assertEqual(answers(PART), [2, 0, 0])
        self.assertEqual(answers(form("book")), [5, 4] + list(b"book"))

    def test_empty_bytes(self):
        self.assertEqual(answers(feed("")), [1, 0])
        self.assertEqual(answers(form("")), [1, -3])
        self.assertEqual(answers(feed("") + PART + feed("") + form("") + PART), [1, 0, 2, 0, 0, 1, 0, 1, -3, 2, 0, 0])

    def test_a_feed_tells_of_each_line_how_many_numbers(self):
        self.assertEqual(run(feed("ask now\n\n# x\nnothing\ntick 0\nask board\n"))[0],
                         [6, 8, 0, 0, 0, 0, 0, 0, 0, 0, 0, 0, 1, -100, 1, -1, 1, 0])

    def test_refused_calls_answer_their_refusal_alone(self):
        self.assertEqual(answers(feed([256]) + form([10]) + form("tick 0") + PART), [1, -1, 1, -1, 1, -4, 2, 0, 0])

    def test_forty_calls(self):
        calls = []
        for number in range(20):
            calls += feed("water ok\n") + RECORD
        told = run(calls)
        self.assertEqual(len(told), 40)
        self.assertEqual(told[-1][0], 180)

    def test_what_is_handed_in_stays(self):
        calls = feed(JOINED + ASK_ALL) + PART + RECORD + form("bag 1 1L") + feed([10, 300])
        copied = list(calls)
        answers(calls)
        self.assertEqual(calls, copied)

    def test_nothing_is_kept_from_one_time_to_the_next(self):
        calls = feed(JOINED + "take 1 on\ngo 1\ntick 20\n" + ASK_ALL + "part") + RECORD + PART
        first = answers(calls)
        answers(feed("water bad\ntick 5\nlot 1 line 1 1\nxyz"))
        self.assertEqual(answers(calls), first)
        self.assertEqual(answers(PART + RECORD), [2, 0, 0, 1, 0])

    def test_what_is_given_back_is_a_list_of_whole_numbers(self):
        told = answers(feed(JOINED + "take 1 on\ngo 1\ntick 20\nslip 1 vein on\n" + ASK_ALL) + RECORD + PART)
        self.assertIs(type(told), list)
        self.assertEqual({type(number) for number in told}, {int})

    def test_what_is_given_back_may_be_changed(self):
        calls = feed("water ok\n") + RECORD
        first = answers(calls)
        copied = list(first)
        first.clear()
        self.assertEqual(answers(calls), copied)

    def test_the_greatest_numbers_are_refused_as_bytes(self):
        for number in (-2 ** 63, 2 ** 63 - 1, -1, 256):
            with self.subTest(number=number):
                self.assertEqual(run(feed([number]), form([number]), PART), [[-1], [-1], [0, 0]])
