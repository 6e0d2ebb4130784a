"""gain, worst, metres, state."""

import unittest

from tests.helper import (BIGGEST, ask, coat, fault, follow, gain, last, lift, mend, metres, plan, stamp, start, state,
                          stretches, total, worst, worth)

# Sheets of 4 places worth 10, of 6 worth 17.
TOLD = {"short": 4, "tall": 6, "w0": 10, "w1": 17}


class Gain(unittest.TestCase):
    def test_as_much_as_all_would_be_worth_more(self):
        line = (start(lanes=2, long=12, **TOLD), fault(0, 5, 6), fault(1, 3, 4), gain(0), gain(1), total())
        # Mended, a lane is worth 34; as it is, lane 0 is worth 10 + 17, lane 1 is worth 0 + 20.
        self.assertEqual(ask(*line)[3:], [[7], [14], [47]])

    def test_it_is_what_mending_brings(self):
        begun = (start(lanes=3, long=30, **TOLD), fault(0, 5, 6), fault(0, 17, 18), fault(1, 0, 30), fault(2, 29, 30),
                 fault(0, 5, 18), stamp(0, 20, 0))
        for f in range(5):
            with self.subTest(f=f):
                before, told, mended, after = ask(*begun, total(), gain(f), mend(f), total())[-4:]
                self.assertEqual(mended, [4])
                self.assertEqual(told, [after[0] - before[0]])

    def test_over_one_another(self):
        line = (start(long=12, **TOLD), fault(0, 4, 8), fault(0, 5, 7), fault(0, 6, 12), gain(0), gain(1), gain(2))
        self.assertEqual(ask(*line)[4:], [[0], [0], [10]])
        self.assertEqual(ask(*line[:4], mend(2), gain(0), gain(1))[4:], [[2], [0], [0]])
        self.assertEqual(ask(*line[:4], mend(2), mend(0), gain(1), mend(1), total())[6:], [[14], [0], [34]])
        self.assertEqual(ask(start(long=12, **TOLD), fault(0, 4, 8), fault(0, 4, 8), gain(0), gain(1), mend(0),
                             gain(1))[3:], [[0], [0], [1], [14]])

    def test_one_that_costs_nothing(self):
        self.assertEqual(ask(start(long=13, **TOLD), fault(0, 12, 13), gain(0))[2:], [[0]])
        self.assertEqual(ask(start(long=3, **TOLD), fault(0, 0, 3), gain(0))[2:], [[0]])
        self.assertEqual(ask(start(w0=0, w1=0), fault(0, 0, 10), gain(0))[2:], [[0]])

    def test_a_fault_up_to_the_end(self):
        self.assertEqual(last(start(long=10, **TOLD), fault(0, 6, 10), gain(0)), [10])
        self.assertEqual(last(start(long=80, short=1, tall=2, w0=1000, w1=0), fault(0, 0, 80), gain(0)), [80000])

    def test_stamped_sheets_stay(self):
        line = (start(long=12, **TOLD), fault(0, 4, 5), gain(0), stamp(0, 5, 0), gain(0), lift(0), stamp(0, 8, 0),
                gain(0), stamp(0, 0, 0), gain(0))
        self.assertEqual(ask(*line)[2:], [[7], [0], [0], [0], [0], [10], [1], [10]])

    def test_no_such_fault(self):
        self.assertEqual(ask(start(), gain(0), fault(0, 0, 1), gain(1), gain(8), gain(BIGGEST), mend(0), gain(0)),
                         [[0], [-2], [0], [-2], [-2], [-2], [0], [-2]])

    def test_a_sheet_is_no_fault(self):
        self.assertEqual(ask(start(), stamp(0, 0, 0), gain(0))[2:], [[-2]])

    def test_a_number_that_is_free_again(self):
        line = (start(long=12, **TOLD), fault(0, 0, 1), fault(0, 11, 12), gain(0), mend(0), gain(0), fault(0, 5, 6),
                gain(0), gain(1))
        self.assertEqual(ask(*line)[3:], [[0], [1], [-2], [0], [7], [7]])

    def test_it_changes_nothing(self):
        probe = (state(), metres(), total(), stretches(0), plan(0))
        line = (start(), fault(0, 4, 5), fault(0, 4, 6), stamp(0, 7, 0))
        given = ask(*line, *probe, gain(0), gain(1), gain(2), *probe, gain(0))
        self.assertEqual(given[4:9], given[12:17])
        self.assertEqual(given[9], given[17])


class Worst(unittest.TestCase):
    def test_the_one_that_costs_most(self):
        line = (start(lanes=3, long=12, **TOLD), fault(0, 5, 6), fault(1, 3, 4), fault(2, 11, 12), gain(0), gain(1),
                gain(2), worst())
        self.assertEqual(ask(*line)[4:], [[7], [14], [7], [1, 14]])

    def test_first_and_last(self):
        line = (start(lanes=2, long=12, **TOLD), fault(0, 3, 4), fault(1, 5, 6), worst(), mend(0), worst(),
                fault(0, 12, 13), coat(1), fault(0, 12, 13), worst(), fault(0, 0, 11), worst())
        self.assertEqual(ask(*line)[3:], [[0, 14], [1], [1, 7], [-22], [13], [0], [1, 7], [2], [2, 34]])

    def test_the_first_of_those_that_cost_alike(self):
        line = (start(lanes=3, long=12, **TOLD), fault(2, 5, 6), fault(1, 3, 4), fault(0, 3, 4), fault(2, 5, 6))
        self.assertEqual(last(*line, worst()), [1, 14])
        self.assertEqual(last(*line, mend(1), worst()), [2, 14])

    def test_the_first_by_its_number_where_that_was_free_again(self):
        line = (start(lanes=3, long=12, **TOLD), fault(0, 5, 6), fault(1, 3, 4), fault(2, 3, 4), mend(0),
                fault(0, 3, 4), worst(), mend(1), worst(), fault(1, 3, 4), mend(0), worst())
        self.assertEqual(ask(*line)[5:], [[0], [0, 14], [2], [0, 14], [1], [2], [1, 14]])

    def test_the_first_where_none_costs(self):
        self.assertEqual(ask(start(w0=0, w1=0), fault(0, 4, 5), fault(0, 0, 9), worst())[3:], [[0, 0]])
        self.assertEqual(ask(start(), fault(0, 4, 5), fault(0, 4, 5), worst(), mend(0), worst())[3:],
                         [[0, 0], [1], [1, 1]])

    def test_over_one_another(self):
        line = (start(long=12, **TOLD), fault(0, 4, 8), fault(0, 5, 7), fault(0, 6, 12), worst())
        self.assertEqual(last(*line), [2, 10])

    def test_there_is_none(self):
        self.assertEqual(ask(start(), worst(), fault(0, 0, 1), mend(0), worst(), stamp(0, 0, 0), worst()),
                         [[0], [-33], [0], [0], [-33], [0], [-33]])
        self.assertEqual(ask(start(), fault(0, 0, 1), start(long=0), worst())[2:], [[0], [-33]])

    def test_eight_faults(self):
        line = [start(long=80, short=9, tall=60, w0=1, w1=0)] + [fault(0, 10 * k + 9, 10 * k + 10) for k in range(8)]
        self.assertEqual(ask(*line, fault(0, 0, 1), worst(), gain(7))[9:], [[-28], [0, 0], [0]])
        line[0] = start(long=80, short=10, tall=60, w0=1, w1=0)
        self.assertEqual(ask(*line, worst(), gain(7))[9:], [[0, 1], [1]])

    def test_it_changes_nothing(self):
        probe = (state(), metres(), total(), stretches(0), plan(0), gain(0), gain(1))
        line = (start(), fault(0, 4, 5), fault(0, 4, 6), stamp(0, 7, 0))
        given = ask(*line, *probe, worst(), *probe, worst())
        self.assertEqual(given[4:11], given[12:19])
        self.assertEqual(given[11], given[19])


class Metres(unittest.TestCase):
    def test_free_faulty_stamped(self):
        line = (start(lanes=3), metres(), fault(1, 3, 7), stamp(0, 0, 1), stamp(2, 8, 0), metres())
        self.assertEqual(ask(*line)[1:], [[30, 30, 0, 0], [0], [0], [1], [30, 21, 4, 5]])

    def test_each_place_once(self):
        line = (start(lanes=2), fault(0, 2, 6), fault(0, 4, 8), fault(0, 5, 6), fault(0, 2, 6), fault(1, 2, 6),
                metres(), mend(1), metres(), mend(0), metres(), mend(3), metres())
        self.assertEqual(ask(*line)[6:], [[20, 10, 10, 0], [4], [20, 12, 8, 0], [3], [20, 12, 8, 0], [2],
                                          [20, 15, 5, 0]])

    def test_a_web_of_no_places(self):
        for lanes in (1, 2, 3):
            with self.subTest(lanes=lanes):
                self.assertEqual(ask(start(lanes=lanes, long=0), metres()), [[0], [0, 0, 0, 0]])

    def test_behind_coat(self):
        line = (start(lanes=2), fault(0, 8, 10), stamp(1, 7, 1), metres(), coat(5), metres(), coat(0), metres())
        self.assertEqual(ask(*line)[3:], [[20, 15, 2, 3], [15], [30, 25, 2, 3], [-22], [30, 25, 2, 3]])
        self.assertEqual(ask(start(lanes=3, long=0), coat(80), metres())[1:], [[80], [240, 240, 0, 0]])

    def test_none_is_free(self):
        self.assertEqual(last(start(), fault(0, 0, 6), stamp(0, 6, 0), stamp(0, 8, 0), metres()), [10, 0, 6, 4])

    def test_behind_follow_and_lift(self):
        self.assertEqual(ask(start(long=11, w1=4), follow(0), metres(), lift(0), metres())[1:],
                         [[4], [11, 0, 0, 11], [0], [11, 2, 0, 9]])

    def test_it_changes_nothing(self):
        self.assertEqual(ask(start(), fault(0, 0, 1), metres(), metres(), state())[2:],
                         [[10, 9, 1, 0], [10, 9, 1, 0], [10, 1, 1, 0]])


class State(unittest.TestCase):
    def states(self, *calls):
        """What state answers behind each of the calls."""
        line = [one for call in calls for one in (call, state())]
        return ask(*line)[1::2]

    def test_behind_each_call_that_changes_something(self):
        given = self.states(start(lanes=2, long=9), coat(3), fault(0, 0, 1), fault(1, 2, 3), fault(1, 2, 3), mend(1),
                            stamp(0, 1, 0), stamp(1, 5, 1), lift(0), follow(0), start(lanes=3, long=7), follow(2))
        self.assertEqual(given, [[9, 2, 0, 0], [12, 2, 0, 0], [12, 2, 1, 0], [12, 2, 2, 0], [12, 2, 3, 0],
                                 [12, 2, 2, 0], [12, 2, 2, 1], [12, 2, 2, 2], [12, 2, 2, 1], [12, 2, 2, 6],
                                 [7, 3, 0, 0], [7, 3, 0, 3]])

    def test_what_is_refused_changes_nothing(self):
        begun = (start(lanes=2), fault(0, 0, 1), stamp(0, 1, 0))
        for call in (start(lanes=0), start(long=81), coat(0), coat(71), coat(BIGGEST), fault(0, 1, 2), fault(0, 5, 5),
                     fault(2, 5, 6), mend(1), mend(BIGGEST), stamp(0, 0, 0), stamp(0, 2, 1), stamp(0, 5, 2),
                     stamp(2, 5, 0), stamp(0, 9, 0), follow(2), follow(BIGGEST), lift(1), lift(BIGGEST), gain(1)):
            with self.subTest(call=call):
                probe = (state(), metres(), stretches(0), stretches(1), total(), worst())
                given = ask(*begun, *probe, call, *probe)
                self.assertEqual(len(given[9]), 1)
                self.assertLess(given[9][0], 0)
                self.assertEqual(given[3:9], given[10:])

    def test_what_only_asks_changes_nothing(self):
        for call in ([4, 0], [5, 9], plan(0), worth(0), total(), [9, 1], [10, 0, 4, 0], [11, 0, 0, 1], gain(0), worst(),
                     [17, 0], metres(), state()):
            with self.subTest(call=call):
                self.assertEqual(self.states(start(lanes=2), fault(0, 0, 1), stamp(0, 1, 0), call)[2:],
                                 [[10, 2, 1, 1]] * 2)

    def test_behind_a_second_start(self):
        self.assertEqual(ask(start(lanes=2), fault(0, 0, 1), stamp(0, 4, 0), start(lanes=1, long=0), state(), metres(),
                             lift(0), mend(0))[3:], [[0], [0, 1, 0, 0], [0, 0, 0, 0], [-2], [-2]])

    def test_at_its_widest(self):
        line = [start(lanes=3, long=80, short=1, tall=2)] + [fault(2, 0, 80)] * 8 + [stamp(1, k, 0) for k in range(30)]
        self.assertEqual(ask(*line, state(), metres())[39:], [[80, 3, 8, 30], [240, 130, 80, 30]])


if __name__ == "__main__":
    unittest.main()
