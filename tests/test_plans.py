"""Plans: weights, room and target, catching up or not, second by second."""

import unittest

from clinicdesk.plans import PlanRecord, next_record, plan_length, record_off, room, target, weights
from helper import JOINED, ClinicTest, asked, last

PLANS = (
    ((5, 1, 3600),),
    ((7, 3, 1800000), (3, 0, 0), (5, 1, 1000)),
    ((1, 1000, 1), (1, 0, 1800000), (1, 1, 5000), (9, 7, 12345)),
    ((4, 0, 1800000), (6, 1, 700)),
    ((3, 5, 999), (3, 5, 3601), (3, 5, 7199), (3, 5, 1), (3, 5, 0), (3, 5, 100000), (3, 1, 54321), (3, 2, 900000)),
)
GOALS = (0, 1, 7, 1000, 2400000, 100000000)


def seconds_of(plan):
    return [piece for piece in plan for second in range(piece[0])]


def by_the_words(plan, goal, catching):
    """t, counted and strokes of each second, told as the document tells them."""
    seconds = seconds_of(plan)
    whole = sum(piece[1] for piece in seconds)
    targets = [goal * sum(piece[1] for piece in seconds[:t]) // whole for t in range(len(seconds) + 1)]
    rooms = [sum(piece[2] for piece in seconds[:t]) // 3600 for t in range(len(seconds) + 1)]
    counted = 0
    found = []
    for t in range(1, len(seconds) + 1):
        wished = targets[t] - counted if catching else targets[t] - targets[t - 1]
        counted += min(wished, rooms[t] - rooms[t - 1])
        found.append((t, counted, counted // 10))
    return found


class SumsTest(unittest.TestCase):
    def test_weights_room_and_target(self):
        for plan in PLANS:
            seconds = seconds_of(plan)
            self.assertEqual(plan_length(plan), len(seconds))
            for t in range(len(seconds) + 1):
                self.assertEqual(weights(plan, t), sum(piece[1] for piece in seconds[:t]))
                self.assertEqual(room(plan, t), sum(piece[2] for piece in seconds[:t]) // 3600)
                for goal in GOALS:
                    expected = goal * weights(plan, t) // weights(plan, len(seconds))
                    self.assertEqual(target(PlanRecord(True, goal, False, plan), t), expected)

    def test_one_division(self):
        # Two pieces of 1800 an hour for one second each make one whole microlitre only together.
        self.assertEqual([room(((1, 1, 1800), (1, 1, 1800)), t) for t in range(3)], [0, 0, 1])


class NextTest(unittest.TestCase):
    def test_second_by_second(self):
        for plan in PLANS:
            for goal in GOALS:
                for catching in (True, False):
                    record = PlanRecord(True, goal, catching, plan)
                    found = []
                    for second in seconds_of(plan):
                        record = next_record(record)
                        found.append((record.t, record.counted, record.strokes))
                        self.assertLessEqual(record.counted, goal)
                    self.assertEqual(found, by_the_words(plan, goal, catching))

    def test_the_rest_stays_and_the_old_record_too(self):
        record = PlanRecord(True, 1000, True, PLANS[1])
        following = next_record(record)
        self.assertEqual((record.t, record.counted, record.strokes), (0, 0, 0))
        self.assertEqual((following.on, following.goal, following.catching, following.plan),
                         (True, 1000, True, PLANS[1]))
        off = record_off(following)
        self.assertEqual((off.on, off.t, off.counted, off.strokes, off.goal), (False, 1, following.counted,
                                                                              following.strokes, 1000))
        self.assertTrue(following.on)

    def test_catching_up_takes_what_was_left(self):
        plan = ((2, 1, 0), (2, 1, 3600000))
        self.assertEqual([row[1] for row in by_the_words(plan, 1000, True)], [0, 0, 750, 1000])
        self.assertEqual([row[1] for row in by_the_words(plan, 1000, False)], [0, 0, 250, 500])


class MachineTest(ClinicTest):
    """The same by the text: what ask chair tells second by second."""

    def follow(self, order, seconds):
        text = JOINED.replace("order 1 1 2L x9 catch 2h:1:900mL/h", order) + "take 1 on\ngo 1\n"
        found = []
        for second in range(seconds):
            text += "tick 1\n"
            chair = asked(text, "chair")
            found.append((chair["t"], chair["counted"], chair["strokes"]))
        return text, found

    def test_catching_up_and_not(self):
        plan = ((4, 0, 900000), (6, 1, 7000), (5, 3, 900000))
        words = "4s:0:900mL/h 6s:1:7mL/h 5s:3:900mL/h"
        for word, catching in (("catch", True), ("plain", False)):
            text, found = self.follow("order 1 1 2100uL x9 %s %s" % (word, words), 15)
            self.assertEqual(found, by_the_words(plan, 2100, catching))

    def test_beyond_the_end(self):
        text, found = self.follow("order 1 1 25uL x9 plain 3s:1:900mL/h", 6)
        self.assertEqual(found, [(1, 8, 0), (2, 16, 1), (3, 25, 2), (3, 25, 2), (3, 25, 2), (3, 25, 2)])
        chair = asked(text, "chair")
        # Only whole strokes are wished: 2 of 10 each.
        self.assertEqual((chair["took"], asked(text, "plant")["taken"]), (20, 20))
        self.check_last(text + "ask session 1\n", 0, 1, 1, 1, 0, 1, 2, 20)

    def test_the_end_of_the_plan_makes_the_second_one_small_step(self):
        text, found = self.follow("order 1 1 25uL x9 plain 3s:1:900mL/h", 2)
        self.assertEqual(last(text + "arm 1 3\ntick 1\nask chair 1\n")[2], 1)
        self.assertEqual(last(text + "arm 1 3\ntick 2\nask chair 1\n")[2], 0)
        self.assertEqual(last(text + "arm 1 4\ntick 2\nask chair 1\n")[2], 1)

    def test_taking_off_and_on(self):
        text, found = self.follow("order 1 1 2L x9 catch 2h:1:900mL/h", 4)
        self.assertEqual(found[-1], (4, 1000, 100))
        text += "take 1 off\ntick 5\n"
        self.assertEqual(asked(text, "chair")["t"], 4)
        text += "take 1 on\nleave 1\ntick 5\n"
        self.assertEqual(asked(text, "chair")["t"], 4)
        text += "join 1\npress 1 0 100\ncentre 1\ntick 2\n"
        self.assertEqual(asked(text, "chair")["t"], 6)

    def test_no_more_water_than_there_is(self):
        # The blood that is at the dialyser in the 5th second holds but 200 of water, and 250 are wished.
        text = JOINED.replace("70kg 350", "70kg 800") + "take 1 on\ngo 1\ntick 9\n"
        chair = asked(text, "chair")
        self.assertEqual((chair["t"], chair["counted"], chair["took"], chair["latches"]), (5, 1250, 1200, 32))
        self.check_last(text + "ask session 1\n", 0, 1, 1, 1, 0, 1, 2, 1200)
