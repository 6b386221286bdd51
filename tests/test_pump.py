"""The twelve steps of a pump move, the path, and each latch that a move raises."""

import unittest

from clinicdesk.machine import Machine, aim
from clinicdesk.pump import pump_move

WATER = (0, 1000, 0)
AIR = (0, 0, 1000)


def ready():
    """A machine whose line holds water, with cells that can be told from one another by a little red."""
    machine = Machine()
    machine.cells = [(place, 900, 0) for place in range(16)]
    return machine


def guard_values(machine):
    guard = machine.guard
    return (guard.latches, guard.clean, guard.readings, guard.unlike, guard.uncentred, guard.still)


class NewCellTest(unittest.TestCase):
    def moved(self, sink, source, **more):
        machine = ready()
        machine.sink = sink
        machine.source = source
        machine.haematocrit = more.get("h", 350)
        machine.bag = more.get("bag", 5000)
        machine.slipped["artery"] = more.get("artery", False)
        machine.slipped["vein"] = more.get("vein", False)
        pump_move(machine, 0)
        return machine

    def test_sink_2(self):
        for source in (0, 1, 2):
            machine = self.moved(2, source)
            self.assertEqual(machine.cells[0], (15, 900, 0))
            totals = machine.totals
            self.assertEqual((machine.bag, totals.drawn, totals.bag_water, totals.air_in), (5000, [0, 0, 0], 0, 16000))
            self.assertEqual((totals.given, totals.spilt, totals.drained), ([0] * 3, [0] * 3, [0] * 3))

    def test_open_air(self):
        for sink in (0, 1):
            machine = self.moved(sink, 0)
            self.assertEqual(machine.cells[0], AIR)
            self.assertEqual((machine.bag, machine.totals.air_in, machine.totals.drawn), (5000, 17000, [0, 0, 0]))

    def test_the_bag(self):
        for bag, water in ((5000, 1000), (1001, 1000), (1000, 1000), (999, 999), (1, 1), (0, 0)):
            for sink in (0, 1):
                machine = self.moved(sink, 1, bag=bag)
                self.assertEqual(machine.cells[0], (0, water, 1000 - water))
                self.assertEqual(machine.bag, bag - water)
                self.assertEqual((machine.totals.bag_water, machine.totals.air_in), (water, 17000 - water))
                self.assertEqual(machine.totals.drawn, [0, 0, 0])

    def test_the_patient(self):
        for h in (0, 350, 1000):
            for sink in (0, 1):
                machine = self.moved(sink, 2, h=h)
                self.assertEqual(machine.cells[0], (h, 1000 - h, 0))
                self.assertEqual((machine.totals.drawn, machine.totals.air_in), ([h, 1000 - h, 0], 16000))
                self.assertEqual(machine.bag, 5000)

    def test_the_artery_s_needle_slipped(self):
        machine = self.moved(1, 2, artery=True)
        self.assertEqual(machine.cells[0], AIR)
        self.assertEqual((machine.totals.drawn, machine.totals.air_in), ([0, 0, 0], 17000))
        self.assertEqual(self.moved(1, 1, artery=True).cells[0], WATER)
        self.assertEqual(self.moved(2, 2, artery=True).cells[0], (15, 900, 0))
        self.assertEqual(self.moved(1, 2, vein=True).cells[0], (350, 650, 0))

    def test_the_last_cell_leaves(self):
        for sink, vein, name in ((0, False, "drained"), (0, True, "drained"), (1, False, "given"), (1, True, "spilt"),
                                 (2, False, ""), (2, True, "")):
            totals = self.moved(sink, 1, vein=vein).totals
            for total in ("drained", "given", "spilt", "thrown"):
                self.assertEqual(getattr(totals, total), [15, 900, 0] if total == name else [0, 0, 0])
        self.assertEqual(self.moved(1, 1, artery=True).totals.given, [15, 900, 0])

    def test_the_others_go_on_by_one(self):
        machine = self.moved(0, 1)
        self.assertEqual(machine.cells, [WATER] + [(place, 900, 0) for place in range(15)])
        self.assertEqual(machine.totals.moves, 1)


class DialyserTest(unittest.TestCase):
    def test_it_takes_out_of_the_cell_that_is_now_at_4(self):
        for wished, water in ((0, 0), (1, 1), (899, 899), (900, 900), (901, 900), (5000, 900)):
            machine = ready()
            machine.took = 7
            pump_move(machine, wished)
            self.assertEqual(machine.cells[4], (3, 900 - water, 0))
            self.assertEqual((machine.took, machine.totals.taken), (7 + water, water))
            self.assertEqual([cell[1] for cell in machine.cells[5:]], [900] * 11)


class TrapTest(unittest.TestCase):
    def test_it_takes_out_of_the_cell_that_is_now_at_8(self):
        for caught, air, left in ((0, 100, 0), (19900, 100, 0), (19901, 100, 1), (20000, 100, 100), (19999, 1000, 999)):
            machine = ready()
            machine.trap = caught
            machine.cells[7] = (1, 2, air)
            machine.cells[8] = (1, 2, 50)
            pump_move(machine, 0)
            self.assertEqual(machine.cells[8], (1, 2, left))
            self.assertEqual(machine.cells[9], (1, 2, 50))
            self.assertEqual(machine.trap, caught + air - left)


class DetectorTest(unittest.TestCase):
    def move(self, machine, air):
        machine.cells[10] = (0, 0, air)
        pump_move(machine, 0)
        return machine.guard

    def test_true_channels_read_the_cell_that_is_now_at_11(self):
        guard = self.move(ready(), 123)
        self.assertEqual((guard.readings, guard.clean, guard.unlike, guard.latches), ([123], 1, 0, 0))

    def test_the_newest_4_are_kept(self):
        machine = ready()
        for air in (1, 2, 3, 4, 5, 6):
            self.move(machine, air)
        self.assertEqual(machine.guard.readings, [6, 5, 4, 3])

    def test_stuck_channels_and_the_greater_of_the_two(self):
        for stuck_a, stuck_b, reading in ((None, None, 30), (10, None, 30), (None, 10, 30), (60, None, 60),
                                          (None, 60, 60), (10, 20, 20), (20, 10, 20), (0, 0, 0)):
            machine = ready()
            machine.stuck["A"] = stuck_a
            machine.stuck["B"] = stuck_b
            self.assertEqual(self.move(machine, 30).readings, [reading])

    def test_a_reading_of_200_is_not_good(self):
        self.assertEqual(guard_values_of(self.move(ready(), 199)), (0, 1))
        self.assertEqual(guard_values_of(self.move(ready(), 200)), (1, 0))

    def test_readings_of_400_together_are_not_good(self):
        for airs, values in (((100, 100, 100, 99), (0, 4)), ((100, 100, 100, 100), (1, 0)), ((199, 199), (0, 2)),
                             ((199, 199, 1), (0, 3)), ((199, 199, 2), (1, 0)), ((199, 199, 1, 0, 199), (0, 5)),
                             ((190, 190, 19, 0, 190, 190), (0, 5)), ((190, 190, 19, 0, 190, 191), (1, 0))):
            machine = ready()
            for air in airs:
                self.move(machine, air)
            self.assertEqual(guard_values_of(machine.guard), values, airs)

    def test_clean_grows_up_to_5(self):
        machine = ready()
        found = []
        for air in (0, 0, 0, 0, 0, 0, 200, 0, 0, 0, 0, 0, 0):
            found.append(self.move(machine, air).clean)
        self.assertEqual(found, [1, 2, 3, 4, 5, 5, 0, 1, 2, 3, 4, 5, 5])
        self.assertEqual(machine.guard.latches, 1)

    def test_unlike(self):
        for stuck_a, stuck_b, apart in ((50, None, False), (51, None, True), (None, 50, False), (None, 51, True),
                                        (100, 150, False), (100, 151, True), (151, 100, True)):
            machine = ready()
            machine.stuck["A"] = stuck_a
            machine.stuck["B"] = stuck_b
            found = []
            for times in range(3):
                guard = self.move(machine, 0)
                found.append((guard.unlike, guard.latches & 2))
            self.assertEqual(found, [(1, 0), (2, 2), (2, 2)] if apart else [(0, 0)] * 3)

    def test_unlike_becomes_0(self):
        machine = ready()
        machine.stuck["A"] = 60
        self.move(machine, 0)
        self.assertEqual(self.move(machine, 60).unlike, 0)
        self.assertEqual(self.move(machine, 0).unlike, 1)
        self.assertEqual(self.move(machine, 0).latches, 2)
        guard = self.move(machine, 60)
        self.assertEqual((guard.unlike, guard.latches), (0, 2))


def guard_values_of(guard):
    return (guard.latches, guard.clean)


class ThicknessTest(unittest.TestCase):
    def test_more_than_700_in_1000(self):
        for cell, wished, latches in (((700, 300, 0), 0, 0), ((701, 299, 0), 0, 32), ((0, 0, 1000), 0, 0),
                                      ((0, 1000, 0), 900, 0), ((7, 3, 990), 0, 0), ((1, 0, 999), 0, 32),
                                      ((350, 650, 0), 500, 0), ((350, 650, 0), 501, 32), ((7, 4, 0), 1, 0),
                                      ((7, 4, 0), 2, 32), ((631, 270, 99), 0, 32)):
            machine = ready()
            machine.cells[3] = cell
            pump_move(machine, wished)
            self.assertEqual(machine.guard.latches, latches, (cell, wished))

    def test_the_cell_at_4_alone(self):
        machine = ready()
        machine.cells[4] = (1000, 0, 0)
        machine.cells[2] = (1000, 0, 0)
        pump_move(machine, 0)
        self.assertEqual(machine.guard.latches, 0)


class CentreTest(unittest.TestCase):
    def moves(self, sink, centre, count):
        machine = ready()
        machine.sink = sink
        machine.source = 1
        machine.bag = 5000000
        machine.guard.centre = centre
        for times in range(count):
            pump_move(machine, 0)
        return (machine.guard.uncentred, machine.guard.latches & 64)

    def test_uncentred(self):
        self.assertEqual([self.moves(1, None, count) for count in (1, 9, 10, 11)], [(1, 0), (9, 0), (10, 64), (10, 64)])
        self.assertEqual(self.moves(1, (0, 100), 20), (0, 0))
        self.assertEqual(self.moves(0, None, 20), (0, 0))
        self.assertEqual(self.moves(2, None, 20), (0, 0))


class StillAndPathTest(unittest.TestCase):
    def test_still_becomes_0(self):
        machine = ready()
        machine.guard.still = 99
        pump_move(machine, 0)
        self.assertEqual(machine.guard.still, 0)

    def test_the_path_flows(self):
        for wall, first in ((0, 0), (1, 1), (8, 1), (9, 2), (16, 2), (2000, 250)):
            machine = ready()
            machine.path = [1, 2, 3, 4, 5, 6]
            machine.wall = wall
            machine.good = 3
            pump_move(machine, 0)
            self.assertEqual(machine.path, [first, 1, 2, 3, 4, 5])
            self.assertEqual((machine.wall, machine.good), (wall - first, 3))

    def test_a_latch_that_is_up_stays_up(self):
        machine = ready()
        machine.guard.latches = 255
        machine.stuck["A"] = 300
        for times in range(12):
            pump_move(machine, 0)
        self.assertEqual(machine.guard.latches, 255)


class AimTest(unittest.TestCase):
    def test_at_where_it_is(self):
        for sink in (0, 1, 2):
            machine = ready()
            machine.sink = sink
            machine.guard.pressures = (1, 2)
            machine.guard.centre = (3, 4)
            machine.guard.uncentred = 5
            aim(machine, sink)
            guard = machine.guard
            self.assertEqual((machine.sink, guard.pressures, guard.centre, guard.uncentred), (sink, (1, 2), (3, 4), 5))
            aim(machine, (sink + 1) % 3)
            self.assertEqual((machine.sink, guard.pressures, guard.centre, guard.uncentred),
                             ((sink + 1) % 3, None, None, 0))


class WholeLineTest(unittest.TestCase):
    def test_a_bag_that_runs_empty(self):
        machine = Machine()
        machine.source = 1
        machine.bag = 30500
        for times in range(60):
            pump_move(machine, 0)
        self.assertEqual(machine.bag, 0)
        self.assertEqual(machine.totals.bag_water, 30500)
        # 60 new cells of 1000 less the bag's water, and the 16 of the new machine.
        self.assertEqual(machine.totals.air_in, 60000 - 30500 + 16000)
        # 8 of the first cells pass the trap; then what it has room for of the air behind the bag.
        self.assertEqual(machine.trap, 20000)

    def test_a_full_trap_lets_air_on(self):
        machine = Machine()
        machine.source = 1
        for times in range(40):
            pump_move(machine, 0)
        self.assertEqual(machine.trap, 20000)
        self.assertEqual(machine.cells[11], AIR)
        self.assertEqual(guard_values(machine), (1, 0, [1000, 1000, 1000, 1000], 0, 0, 0))
