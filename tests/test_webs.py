"""start, coat, fault, mend."""

import unittest

from tests.helper import (BIGGEST, alone, ask, coat, fault, last, lift, mend, plan, stamp, start, state, stretches,
                          total)


class Start(unittest.TestCase):
    def test_a_web_without_faults(self):
        self.assertEqual(ask(start(lanes=2, long=7), stretches(0), stretches(1), mend(0)),
                         [[0], [1, 0, 7], [1, 0, 7], [-2]])

    def test_the_widest_that_may_be(self):
        for told in ({"lanes": 1}, {"lanes": 3}, {"long": 0}, {"long": 80}, {"short": 1}, {"short": 59, "tall": 60},
                     {"short": 1, "tall": 2}, {"tall": 60}, {"w0": 0}, {"w1": 0}, {"w0": 1000}, {"w1": 1000},
                     {"w0": 9, "w1": 0}):
            with self.subTest(told=told):
                self.assertEqual(ask(start(**told)), [[0]])

    def test_a_sheet_may_be_longer_than_the_web(self):
        self.assertEqual(ask(start(long=5, short=6, tall=60), plan(0), total()), [[0], [0], [0]])

    def test_what_is_refused(self):
        for told in ({"lanes": 0}, {"lanes": 4}, {"long": 81}, {"short": 0}, {"short": 3, "tall": 3},
                     {"short": 4, "tall": 3}, {"tall": 61}, {"w0": 1001}, {"w1": 1001}, {"short": 60, "tall": 60},
                     {"short": 0, "tall": 0}):
            with self.subTest(told=told):
                self.assertEqual(ask(start(**told)), [[-22]])

    def test_the_biggest_numbers_are_refused(self):
        for name in ("lanes", "long", "short", "tall", "w0", "w1"):
            with self.subTest(name=name):
                self.assertEqual(ask(start(**{name: BIGGEST})), [[-22]])
        self.assertEqual(ask([0] + [BIGGEST] * 6), [[-22]])

    def test_a_start_after_a_start_is_a_new_web(self):
        line = (start(lanes=2, long=10, short=2, tall=3, w0=2, w1=3), coat(5), fault(0, 0, 4), fault(1, 2, 3),
                start(lanes=1, long=6, short=3, tall=4, w0=7, w1=5), stretches(0), stretches(1), mend(0), total(),
                alone(0), fault(0, 5, 6), coat(1))
        self.assertEqual(ask(*line)[4:], [[0], [1, 0, 6], [-22], [-2], [14], [2], [0], [7]])

    def test_a_refused_start_leaves_the_web(self):
        line = (start(long=10), fault(0, 4, 5), start(lanes=0, long=3), stretches(0), total(), mend(0))
        self.assertEqual(ask(*line)[2:], [[-22], [2, 0, 4, 5, 10], [9], [0]])


class Coat(unittest.TestCase):
    def test_all_lanes_are_longer(self):
        self.assertEqual(ask(start(lanes=3, long=4), coat(3), stretches(0), stretches(1), stretches(2), coat(1)),
                         [[0], [7], [1, 0, 7], [1, 0, 7], [1, 0, 7], [8]])

    def test_up_to_80(self):
        self.assertEqual(ask(start(long=10), coat(71), coat(70), coat(1)), [[0], [-22], [80], [-22]])
        self.assertEqual(ask(start(long=0), coat(80)), [[0], [80]])

    def test_none_and_too_many_change_nothing(self):
        self.assertEqual(ask(start(long=10), coat(0), coat(BIGGEST), stretches(0)),
                         [[0], [-22], [-22], [1, 0, 10]])

    def test_faults_stay_where_they_are(self):
        self.assertEqual(last(start(long=10), fault(0, 8, 10), coat(5), stretches(0)), [2, 0, 8, 10, 15])


class Fault(unittest.TestCase):
    def test_takes_its_lane_alone_and_not_its_end(self):
        self.assertEqual(ask(start(lanes=2), fault(1, 3, 5), stretches(0), stretches(1)),
                         [[0], [0], [1, 0, 10], [2, 0, 3, 5, 10]])

    def test_numbers_go_over_all_lanes(self):
        self.assertEqual(ask(start(lanes=3), fault(2, 0, 1), fault(0, 0, 1), fault(1, 0, 1)), [[0], [0], [1], [2]])

    def test_at_the_edges(self):
        self.assertEqual(ask(start(), fault(0, 0, 1), fault(0, 9, 10), stretches(0)), [[0], [0], [1], [1, 1, 9]])
        self.assertEqual(ask(start(), fault(0, 0, 10), stretches(0)), [[0], [0], [0]])

    def test_no_such_lane(self):
        self.assertEqual(ask(start(lanes=2), fault(2, 0, 1), fault(BIGGEST, 0, 1), mend(0)),
                         [[0], [-22], [-22], [-2]])

    def test_wrong_places(self):
        for begin, end in ((3, 3), (4, 3), (9, 11), (10, 11), (10, 10), (0, 0), (0, BIGGEST), (BIGGEST, 5),
                           (BIGGEST, BIGGEST)):
            with self.subTest(begin=begin, end=end):
                self.assertEqual(ask(start(), fault(0, begin, end), stretches(0)), [[0], [-22], [1, 0, 10]])

    def test_places_as_far_as_coated(self):
        self.assertEqual(ask(start(), fault(0, 9, 11), coat(1), fault(0, 9, 11)), [[0], [-22], [11], [0]])

    def test_eight_at_most_over_all_lanes(self):
        line = [start(lanes=2)] + [fault(k % 2, k, k + 1) for k in range(8)] + [fault(0, 9, 10), stretches(0)]
        self.assertEqual(ask(*line)[1:], [[k] for k in range(8)] + [[-28], [4, 1, 2, 3, 4, 5, 6, 7, 10]])

    def test_wrong_is_named_ahead_of_full(self):
        line = [start()] + [fault(0, 0, 1)] * 8
        self.assertEqual(ask(*line, fault(1, 0, 1), fault(0, 1, 1), fault(0, 9, 11), fault(0, 0, 1))[9:],
                         [[-22], [-22], [-22], [-28]])

    def test_over_one_another(self):
        line = (start(long=12), fault(0, 2, 6), fault(0, 4, 8), fault(0, 5, 6), fault(0, 2, 6), stretches(0),
                mend(0), stretches(0), mend(1), stretches(0), mend(3), stretches(0))
        self.assertEqual(ask(*line)[1:], [[0], [1], [2], [3], [2, 0, 2, 8, 12], [3], [2, 0, 2, 8, 12],
                                          [2], [2, 0, 2, 6, 12], [1], [2, 0, 5, 6, 12]])


class FaultByASheet(unittest.TestCase):
    BEGUN = (start(lanes=2, long=20, short=3, tall=5), stamp(0, 4, 0), stamp(0, 10, 1))

    def test_a_sheet_lies_there(self):
        for begin, end in ((4, 5), (6, 7), (0, 5), (6, 9), (5, 6), (3, 8), (14, 15), (9, 11), (0, 20)):
            with self.subTest(begin=begin, end=end):
                self.assertEqual(ask(*self.BEGUN, fault(0, begin, end), state(), stretches(0))[3:],
                                 [[-16], [20, 2, 0, 2], [3, 0, 4, 7, 10, 15, 20]])

    def test_beside_a_sheet_and_on_another_lane(self):
        line = (fault(0, 3, 4), fault(0, 7, 10), fault(0, 15, 16), fault(1, 4, 7))
        self.assertEqual(ask(*self.BEGUN, *line)[3:], [[0], [1], [2], [3]])

    def test_once_it_is_lifted(self):
        self.assertEqual(ask(*self.BEGUN, lift(0), fault(0, 4, 7), fault(0, 12, 13))[3:], [[0], [0], [-16]])

    def test_which_refusal_comes_first(self):
        line = [fault(1, 0, 1)] * 8 + [fault(0, 4, 21), fault(0, 6, 5), fault(2, 4, 5), fault(0, 4, 5), fault(0, 3, 4)]
        self.assertEqual(ask(*self.BEGUN, *line)[11:], [[-22], [-22], [-22], [-16], [-28]])

    def test_its_places_are_not_free(self):
        self.assertEqual(ask(*self.BEGUN, stretches(0), stretches(1))[3:], [[3, 0, 4, 7, 10, 15, 20], [1, 0, 20]])


class Mend(unittest.TestCase):
    def test_how_many_there_are(self):
        self.assertEqual(ask(start(), fault(0, 0, 1), fault(0, 2, 3), mend(0), stretches(0), mend(1), stretches(0)),
                         [[0], [0], [1], [1], [2, 0, 2, 3, 10], [0], [1, 0, 10]])

    def test_no_such_fault(self):
        self.assertEqual(ask(start(), mend(0), fault(0, 0, 1), mend(1), mend(8), mend(BIGGEST), mend(0), mend(0)),
                         [[0], [-2], [0], [-2], [-2], [-2], [0], [-2]])

    def test_the_least_free_number_is_given_again(self):
        line = [start()] + [fault(0, 0, 1)] * 4 + [mend(2), mend(0), fault(0, 1, 2), fault(0, 2, 3), fault(0, 3, 4)]
        self.assertEqual(ask(*line)[5:], [[3], [2], [0], [2], [4]])

    def test_there_is_room_again(self):
        line = [start()] + [fault(0, 0, 1)] * 8 + [mend(5), fault(0, 1, 2), fault(0, 1, 2)]
        self.assertEqual(ask(*line)[9:], [[7], [5], [-28]])

    def test_never_makes_less(self):
        marked = [fault(0, 3, 5), fault(0, 4, 9), fault(1, 0, 2), fault(1, 17, 20), fault(0, 12, 13)]
        for w0, w1 in ((2, 3), (0, 9), (9, 0), (0, 0), (3, 10)):
            begun = [start(lanes=2, long=20, short=3, tall=5, w0=w0, w1=w1)] + marked
            for f in range(5):
                with self.subTest(w0=w0, w1=w1, f=f):
                    before, mended, after = ask(*begun, total(), mend(f), total())[-3:]
                    self.assertEqual(mended, [4])
                    self.assertLessEqual(before[0], after[0])


if __name__ == "__main__":
    unittest.main()
