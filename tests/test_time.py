"""Time: seconds at a chair, the ledger, what is drawn and given, blood that stands, since, and the board."""

from clinicdesk.holdings import Clinic
from helper import JOINED, PHASES, PRIMED, RETURNING, TREATING, ClinicTest, asked, clinic_behind, do, last, told

LEAKS = "leak 1 1000\nleak 1 1000\nleak 1 1000\n"
BLOOD = TREATING + "join 1\ngo 1\ntick 5\nleave 1\nhalt 1\n"


class MovesTest(ClinicTest):
    def check_moves(self, text, seconds, moves, going):
        before = asked(text, "plant")["moves"]
        text += "tick %d\n" % seconds
        self.assertEqual(asked(text, "plant")["moves"] - before, moves)
        self.assertEqual(asked(text, "chair")["going"], going)

    def test_it_moves_once_a_second(self):
        for text in (TREATING, RETURNING, JOINED, JOINED + "finish 1\n"):
            self.check_moves(text + "go 1\n", 7, 7, 1)

    def test_it_does_not_go(self):
        for text in PHASES:
            self.check_moves(text, 7, 0, 0)
        self.check_moves(TREATING + "go 1\nhalt 1\n", 7, 0, 0)

    def test_it_has_no_power(self):
        self.check_moves(TREATING + "go 1\nfail 1\n", 7, 0, 0)
        self.check_moves(TREATING + "go 1\nfail 1\nback 1\n", 7, 0, 0)

    def test_the_water_is_not_good(self):
        self.check_moves(TREATING + "go 1\nwater bad\n", 7, 0, 0)
        self.check_moves(RETURNING + "go 1\nwater bad\n", 7, 7, 1)

    def test_the_order_is_not_in_force(self):
        self.check_moves(TREATING + "go 1\nend 1\n", 7, 0, 0)
        self.check_moves(RETURNING + "go 1\nend 1\n", 7, 7, 1)

    def test_joined_and_latched(self):
        self.check_moves(JOINED + "go 1\n" + LEAKS, 7, 0, 0)
        self.check_moves(RETURNING + "join 1\ngo 1\n" + LEAKS, 7, 0, 0)
        self.check_moves(TREATING + "go 1\n" + LEAKS, 7, 7, 1)
        self.check_moves(RETURNING + "go 1\n" + LEAKS, 7, 7, 1)

    def test_latched_within_the_tick(self):
        self.check_moves(TREATING + "join 1\ngo 1\n", 30, 10, 0)

    def test_once_it_stopped_it_does_not_go_by_itself(self):
        self.check_moves(TREATING + "go 1\nwater bad\ntick 1\nwater ok\n", 7, 0, 0)
        self.check_moves(TREATING + "go 1\nwater bad\nwater ok\n", 7, 7, 1)

    def test_the_water_s_four_hours_end_within_a_tick(self):
        text = TREATING + "tick 600\n" * 23 + "tick 590\ngo 1\n"
        self.check_moves(text, 10, 10, 1)
        self.check_moves(text, 60, 10, 0)

    def test_a_thousand_million_moves(self):
        for moves, done in ((999999999, 1), (999999998, 2), (1000000000, 0), (999999000, 7)):
            clinic = clinic_behind(RETURNING + "go 1\n")
            machine = clinic.chairs[0].machine
            machine.totals.moves = moves
            do(clinic, "tick 7")
            self.assertEqual(machine.totals.moves, moves + done)
            self.assertEqual(machine.going, done == 7)

    def test_without_a_session_treating_is_not_allowed(self):
        clinic = clinic_behind(TREATING + "take 1 on\ngo 1\n")
        clinic.chairs[0].session = 0
        do(clinic, "tick 1")
        self.assertEqual((clinic.chairs[0].machine.going, clinic.chairs[0].machine.taking), (False, False))

    def test_who_signed(self):
        text = TREATING.replace("staff 1 doctor", "staff 1 nurse").replace("staff 2 nurse", "staff 2 doctor")
        self.check_moves(text + "go 1\n", 7, 7, 1)

    def test_the_order_of_the_chair_s_own_session(self):
        text = TREATING + "patient 2 80kg 400 plain\norder 2 2 1L x1 plain 1h:1:1L/h\nsign 2 1\nsign 2 2\nseat 2 2\n"
        text += "test 2\nlay 2\nbag 2 5L\nprime 2 20 drain\nreset 2 0\nstart 2 2\ngo 1\ngo 2\n"
        for order, allowed in ((1, [0, 1]), (2, [1, 0])):
            ended = text + "end %d\ntick 1\n" % order
            self.assertEqual([asked(ended, "chair", chair)["allowed"] for chair in (1, 2)], allowed)
            self.assertEqual([asked(ended, "chair", chair)["going"] for chair in (1, 2)], allowed)

    def test_chairs_are_apart(self):
        other = ("patient 2 80kg 400 marked\norder 2 2 1L x1 plain 1h:1:1L/h\nsign 2 1\nsign 2 2\nseat 2 4\ntest 4\n"
                 "lay 4\nbag 4 5L\nprime 4 20 drain\nreset 4 0\nstart 4 2\njoin 4\npress 4 0 100\ncentre 4\ntake 4 on\n")
        text = JOINED + other + "take 1 on\ngo 1\ngo 4\ntick 9\n"
        self.check_last(text, 0, 9, 0, 2250, 0, 0, 0, 0, 0, 2500)
        self.check_last(text + "ask session 2\n", 0, 2, 2, 4, 0, 1, 2, 2500)
        self.check_last(text + "ask patient 2\n", 0, 80000, 400, 1, 1, 3600, 0)
        self.check_last(text + "halt 1\ntick 1\n", 0, 10, 0, 2250, 0, 0, 0, 0, 0, 2777)


class TakingTest(ClinicTest):
    def test_taking_goes_off_where_treating_is_not_allowed(self):
        for more in ("water bad\n", "end 1\n"):
            for go in ("", "go 1\n"):
                text = JOINED + "take 1 on\n" + go + more
                self.assertEqual(asked(text, "chair")["taking"], 1)
                self.assertEqual(asked(text + "tick 1\n", "chair")["taking"], 0)

    def test_taking_stays_on_where_it_stops_for_another_reason(self):
        for more in ("", "go 1\nhalt 1\n", "go 1\n" + LEAKS):
            self.assertEqual(asked(JOINED + "take 1 on\n" + more + "tick 9\n", "chair")["taking"], 1)

    def test_treating_that_stops_being_allowed_within_a_tick(self):
        text = JOINED + "tick 600\n" * 23 + "tick 590\ntake 1 on\ngo 1\ntick 10\n"
        chair = asked(text, "chair")
        self.assertEqual((chair["taking"], chair["going"], chair["allowed"], chair["t"]), (1, 1, 1, 10))
        chair = asked(text + "tick 1\n", "chair")
        self.assertEqual((chair["taking"], chair["going"], chair["allowed"], chair["t"]), (0, 0, 0, 10))


class LedgerTest(ClinicTest):
    def test_the_airs_of_the_cells_that_left(self):
        clinic = clinic_behind(TREATING + "join 1\n")
        chair = clinic.chairs[0]
        machine = chair.machine
        machine.cells = [(0, 0, air) for air in (0, 0, 0, 0, 0, 0, 0, 0, 0, 0, 0, 10, 20, 90, 30, 40)]
        found = []
        for second in range(6):
            do(clinic, "go 1")
            do(clinic, "tick 1")
            found.append(do(clinic, "ask ledger 1"))
        self.assertEqual(found, [[0, 40, 40, 1, 40], [0, 40, 70, 2, 70], [0, 90, 160, 3, 160], [0, 90, 180, 3, 140],
                                 [0, 90, 180, 3, 120], [0, 90, 180, 3, 30]])
        do(clinic, "leave 1")
        self.assertEqual(do(clinic, "ask ledger 1"), [0, 90, 180, 3, 30])
        do(clinic, "tick 5")
        self.assertEqual(do(clinic, "ask ledger 1"), [0, 90, 180, 3, 30])
        do(clinic, "join 1")
        self.assertEqual(do(clinic, "ask ledger 1"), [0, 90, 180, 0, 0])

    def test_a_spilt_cell_too(self):
        clinic = clinic_behind(TREATING + "join 1\nslip 1 vein on\ngo 1\n")
        machine = clinic.chairs[0].machine
        machine.cells[15] = (0, 0, 77)
        do(clinic, "tick 1")
        self.assertEqual(do(clinic, "ask ledger 1"), [0, 77, 77, 1, 77])

    def test_not_joined(self):
        clinic = clinic_behind(TREATING + "go 1\n")
        clinic.chairs[0].machine.cells[15] = (0, 0, 77)
        do(clinic, "tick 3")
        self.assertEqual(do(clinic, "ask ledger 1"), [0, 0, 0, 0, 0])

    def test_not_where_the_power_failed(self):
        self.check_last(TREATING + "join 1\ngo 1\narm 1 3\ntick 9\nask ledger 1\n", 0, 0, 0, 3, 0)
        self.check_last(TREATING + "join 1\ngo 1\narm 1 2\ntick 9\nask ledger 1\n", 0, 0, 0, 2, 0)

    def test_priming_is_not_entered(self):
        self.check_last(PRIMED + "ask ledger 1\n", 0, 0, 0, 0, 0)


class DrawnAndGivenTest(ClinicTest):
    def patient(self, text):
        return last(text + "ask patient 1\n")[5:]

    def test_drawn_and_given(self):
        self.assertEqual(self.patient(JOINED + "go 1\ntick 16\n"), [16 * 350, 0])
        self.assertEqual(self.patient(JOINED + "go 1\ntick 17\n"), [17 * 350, 350])
        self.assertEqual(self.patient(JOINED + "go 1\ntick 30\nfinish 1\ntick 30\n"), [30 * 350, 30 * 350])

    def test_spilt_counts_as_given(self):
        text = JOINED + "go 1\ntick 18\nslip 1 vein on\ntick 2\n"
        self.assertEqual(self.patient(text), [20 * 350, 4 * 350])
        plant = asked(text, "plant")
        self.assertEqual((plant["given_red"], plant["spilt_red"], plant["spilt_water"]), (2 * 350, 2 * 350, 2 * 650))

    def test_with_the_artery_slipped_nothing_is_drawn(self):
        self.assertEqual(self.patient(JOINED + "slip 1 artery on\ngo 1\ntick 5\n"), [0, 0])

    def test_going_round_draws_nothing(self):
        self.assertEqual(self.patient(TREATING + "go 1\ntick 50\n"), [0, 0])

    def test_nobody_sits_there(self):
        clinic = clinic_behind(JOINED + "go 1\n")
        clinic.chairs[0].patient = 0
        do(clinic, "tick 20")
        self.assertEqual(do(clinic, "ask patient 1"), [0, 70000, 350, 0, 0, 0, 0])
        self.assertEqual(clinic.chairs[0].machine.totals.drawn, [20 * 350, 20 * 650, 0])


class BloodStandsTest(ClinicTest):
    def test_still_at_120_and_121(self):
        self.check_last(BLOOD + "tick 120\n", 0, 125, 0, 0, 0, 0, 0, 0, 0, 0)
        self.assertEqual(asked(BLOOD + "tick 120\n", "guard")["still"], 120)
        self.check_last(BLOOD + "tick 121\n", 0, 126, 128, 0, 0, 0, 0, 0, 0, 0)
        self.assertEqual(asked(BLOOD + "tick 121\n", "guard")["still"], 121)
        self.assertEqual(asked(BLOOD + "tick 600\n", "guard")["still"], 600)

    def test_without_power(self):
        self.check_last(BLOOD + "fail 1\ntick 121\n", 0, 126, 128, 0, 0, 0, 0, 0, 0, 0)
        self.check_last(BLOOD + "fail 1\ntick 121\nback 1\n", 0, 3, 128, 0)

    def test_the_least_red(self):
        text = BLOOD.replace("70kg 350", "70kg 1")
        self.check_last(text + "tick 121\n", 0, 126, 128, 0, 0, 0, 0, 0, 0, 0)

    def test_without_red(self):
        for text in ("", TREATING, RETURNING):
            self.assertEqual(asked(text + "tick 300\n", "guard")["still"], 0)
            self.assertEqual(asked(text + "tick 300\n", "guard")["latches"], 0)

    def test_a_move_makes_it_0(self):
        self.assertEqual(asked(BLOOD + "tick 100\ngo 1\ntick 1\n", "guard")["still"], 0)
        self.check_last(BLOOD + "tick 100\ngo 1\ntick 1\nhalt 1\ntick 100\n", 0, 206, 0, 0, 0, 0, 0, 0, 0, 0)

    def test_in_every_later_phase(self):
        text = BLOOD + "done 1\ndisinfect 1 1\nrinse 1 12\nclear 1\ntest 1\n"
        self.check_last(text + "tick 121\n", 0, 126, 128, 0, 0, 0, 0, 0, 0, 0)
        self.assertEqual(asked(text + "tick 121\nlay 1\ntick 121\n", "guard")["still"], 0)

    def test_never_beyond_a_million(self):
        for before, behind in ((999998, 1000000), (999999, 1000000), (1000000, 1000000), (999990, 999992)):
            clinic = clinic_behind(BLOOD)
            guard = clinic.chairs[0].machine.guard
            guard.still = before
            do(clinic, "tick 2")
            self.assertEqual(guard.still, behind)

    def test_without_red_it_becomes_0_where_it_was_more(self):
        clinic = clinic_behind(TREATING)
        guard = clinic.chairs[0].machine.guard
        guard.still = 500
        do(clinic, "tick 1")
        self.assertEqual((guard.still, guard.latches), (0, 0))

    def test_the_power_failing_within_a_second(self):
        text = JOINED + "go 1\ntick 5\narm 1 0\ntick 1\n"
        self.assertEqual(asked(text, "guard")["still"], 1)
        self.assertEqual(asked(JOINED + "go 1\narm 1 0\ntick 1\n", "guard")["still"], 0)


class SinceTest(ClinicTest):
    def board(self, text):
        return last(text + "ask board\n")[1:]

    def test_since_is_the_clock(self):
        self.assertEqual(self.board("tick 7\n" + LEAKS + "tick 9\n"), [1, 2, 7])
        self.assertEqual(self.board("tick 7\n" + LEAKS), [1, 2, 7])

    def test_since_stays_while_it_is_latched(self):
        text = TREATING + "join 1\ntick 3\n" + LEAKS + "tick 4\npress 1 500 500\ntick 5\nleak 1 0\n"
        self.assertEqual(self.board(text), [1, 2, 3])
        self.assertEqual(self.board(text + "reset 1 2\n"), [1, 2, 3])

    def test_since_is_gone_and_comes_anew(self):
        text = "tick 3\n" + LEAKS + "leak 1 0\nreset 1 2\ntick 5\n"
        self.assertEqual(self.board(text), [])
        self.assertEqual(self.board(text + LEAKS), [1, 2, 8])

    def test_by_a_second(self):
        self.assertEqual(self.board(BLOOD + "tick 400\n"), [1, 3, 126])
        self.assertEqual(self.board(TREATING + "join 1\ngo 1\ntick 30\n"), [1, 1, 10])

    def test_by_a_failing(self):
        self.assertEqual(self.board("tick 3\n" + LEAKS + "tick 3\nfail 1\n"), [])
        self.assertEqual(self.board("tick 3\n" + LEAKS + "tick 3\nfail 1\nback 1\n" + LEAKS), [1, 2, 6])
        self.assertEqual(self.board("tick 3\n" + LEAKS + "tick 3\narm 1 0\ntest 1\n"), [])
        self.assertEqual(self.board(BLOOD + "tick 400\nfail 1\ntick 5\nback 1\n"), [1, 3, 126])

    def test_a_failing_within_an_act_lets_since_begin_anew(self):
        text = "tick 3\n" + LEAKS + "tick 3\narm 1 0\ntest 1\nback 1\n" + LEAKS
        self.assertEqual(self.board(text), [1, 2, 6])

    def test_by_lay(self):
        text = "lot 1 line 9 9\nlot 2 filter 9 9\ntest 1\n" + LEAKS
        self.assertEqual(self.board(text), [1, 2, 0])
        self.assertEqual(self.board(text + "lay 1\n"), [])


class BoardTest(ClinicTest):
    def board_of(self, rows):
        """What the board tells of chairs with these latches and since."""
        clinic = Clinic()
        for chair, latches, since in rows:
            clinic.chairs[chair - 1].machine.guard.latches = latches
            clinic.chairs[chair - 1].since = since
        told_numbers = do(clinic, "ask board")
        self.assertEqual(told_numbers[0], 0)
        return [tuple(told_numbers[place:place + 3]) for place in range(1, len(told_numbers), 3)]

    def test_how_grave(self):
        for latches, grave in ((1, 3), (128, 3), (2, 2), (4, 2), (16, 2), (8, 1), (32, 1), (64, 1), (104, 1), (106, 2),
                               (126, 2), (127, 3), (254, 3), (255, 3), (120, 2)):
            self.assertEqual(self.board_of([(2, latches, 5)]), [(2, grave, 5)])

    def test_order(self):
        self.assertEqual(self.board_of([(1, 8, 1), (2, 2, 2), (3, 1, 3), (4, 128, 2)]),
                         [(4, 3, 2), (3, 3, 3), (2, 2, 2), (1, 1, 1)])
        self.assertEqual(self.board_of([(1, 8, 9), (2, 32, 7), (3, 64, 9), (4, 8, 8)]),
                         [(2, 1, 7), (4, 1, 8), (1, 1, 9), (3, 1, 9)])
        self.assertEqual(self.board_of([(4, 1, 0), (2, 128, 0)]), [(2, 3, 0), (4, 3, 0)])
        self.assertEqual(self.board_of([]), [])

    def test_by_a_text(self):
        text = "leak 3 1000\n" * 3 + "tick 2\n" + "leak 2 1000\n" * 3 + "leak 1 1000\n" * 3
        self.check_last(text + "ask board\n", 0, 3, 2, 0, 1, 2, 2, 2, 2, 2)
        self.assertEqual(told(text + "tick 1\nleak 3 0\nreset 3 2\nask board\n")[-1], [0, 1, 2, 2, 2, 2, 2])
