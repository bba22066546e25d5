"""The points 3, 5 and 6 of the document's requirements, and the interface's last paragraph."""

import contextlib
import io
import unittest

from closedqueues.networks import answers
from helper import DELAY, GREATEST, QUEUE, SAMPLES, Net, run, station, written

SEEN = [("norm",), ("throughput", 0), ("cycle", 0), ("mean_number", 0, 0), ("station_number", 0),
        ("residence", 0, 0), ("busy", 0, 0), ("get_population", 0), ("get_demand", 0, 0)]
REFUSED = [("create", 0, 1), ("create", 1, 4), ("create", GREATEST, GREATEST),
           ("set_station", 5, 1, 1), ("set_station", 0, 2, 1), ("set_station", 0, 1, 3),
           ("set_station", 0, 0, 21), ("set_demand", 5, 0, 1), ("set_demand", 0, 3, 1),
           ("set_demand", 0, 0, 1001), ("set_population", 3, 1), ("set_population", 0, 13),
           ("get_demand", 5, 0), ("get_population", 3), ("throughput", 3), ("cycle", 3),
           ("mean_number", 5, 0), ("station_number", 5), ("residence", 0, 3), ("busy", 5, 3)]


class Customers(unittest.TestCase):
    def test_mean_numbers_of_a_class_sum_to_its_population(self):
        for net in SAMPLES:
            for customer_class, population in enumerate(net.populations):
                total = sum(net.value("mean_number", place, customer_class)
                            for place in range(len(net.stations)))
                self.assertEqual(total, population)

    def test_residence_times_of_a_class_sum_to_its_cycle_time(self):
        for net in SAMPLES:
            for customer_class, population in enumerate(net.populations):
                if population:
                    total = sum(net.value("residence", place, customer_class)
                                for place in range(len(net.stations)))
                    self.assertEqual(total, net.value("cycle", customer_class))

    def test_station_numbers_sum_to_all_customers(self):
        for net in SAMPLES:
            total = sum(net.value("station_number", place) for place in range(len(net.stations)))
            self.assertEqual(total, sum(net.populations))


class Growth(unittest.TestCase):
    def test_another_customer_never_lowers_the_throughput(self):
        for stations in [[station(QUEUE, 5)],
                         [station(QUEUE, 1), station(QUEUE, 2)],
                         [station(DELAY, 100), station(QUEUE, 7)],
                         [station((0, 3), 10), station((0, 2), 7), station(DELAY, 5)],
                         [station((0, 20), 900), station(QUEUE, 0), station(DELAY, 1000),
                          station((0, 4), 333), station(QUEUE, 77)]]:
            rates = [Net(stations, [customers]).value("throughput", 0) for customers in range(13)]
            self.assertEqual(rates, sorted(rates))
            self.assertEqual(rates[0], 0)
            self.assertGreater(rates[1], 0)


class RefusedCalls(unittest.TestCase):
    def test_a_refused_call_changes_nothing(self):
        for net in SAMPLES:
            before = net.ask(*SEEN)
            for call in REFUSED:
                told = net.ask(call, *SEEN)
                self.assertLess(told[0][0], 0)
                self.assertEqual(len(told[0]), 1)
                self.assertEqual(told[1:], before)

    def test_too_large_populations_change_nothing(self):
        net = Net([station(QUEUE, 2, 7), station((0, 2), 5, 3)], [4, 7])
        before = net.ask(*SEEN)
        self.assertEqual(net.ask(("set_population", 0, 5), *SEEN), [[-28]] + before)

    def test_questions_change_nothing(self):
        for net in SAMPLES:
            before = net.ask(*SEEN)
            self.assertEqual(net.ask(*SEEN, *SEEN), before + before)


class Interface(unittest.TestCase):
    def test_calls_are_not_changed(self):
        for net in SAMPLES:
            calls = written(net.calls() + SEEN + REFUSED[:10])
            kept = list(calls)
            answers(calls)
            self.assertEqual(calls, kept)

    def test_the_same_calls_have_the_same_answers(self):
        for net in SAMPLES:
            calls = written(net.calls() + SEEN)
            first = answers(calls)
            kept = list(first)
            second = answers(calls)
            self.assertEqual(first, kept)
            self.assertEqual(second, kept)
            self.assertIsNot(first, second)

    def test_nothing_is_kept_from_one_request_to_the_next(self):
        run(("create", 2, 2), ("set_station", 0, 1, 1), ("set_demand", 0, 0, 3),
            ("set_population", 0, 2))
        self.assertEqual(run(("get_population", 0), ("create", 1, 1), ("get_population", 0),
                             ("get_demand", 0, 0)), [[-11], [0], [0], [0]])

    def test_whole_numbers_in_one_list(self):
        for net in SAMPLES:
            told = answers(written(net.calls() + SEEN + REFUSED[:10]))
            self.assertIs(type(told), list)
            for number in told:
                self.assertIs(type(number), int)

    def test_nothing_is_printed(self):
        shown = io.StringIO()
        with contextlib.redirect_stdout(shown), contextlib.redirect_stderr(shown):
            run(*SAMPLES[-1].calls(), *SEEN, *REFUSED[:10])
        self.assertEqual(shown.getvalue(), "")

    def test_fifty_calls(self):
        told = run(("create", 1, 1), *[("get_population", 0)] * 49)
        self.assertEqual(told, [[0]] * 50)

    def test_one_call(self):
        self.assertEqual(answers([0, 5, 3]), [1, 0])
        self.assertEqual(answers([6]), [1, -11])


if __name__ == "__main__":
    unittest.main()
