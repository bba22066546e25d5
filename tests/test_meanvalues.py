"""The calls 18 and 19: mean_values, mva_throughput."""

import unittest

from helper import DELAY, GREATEST, IMPROPER, QUEUE, SAMPLES, Net, as_answer, as_list, last, run, station

SIMPLE = [net for net in SAMPLES if net.is_simple()]
NOT_SIMPLE = [net for net in SAMPLES if not net.is_simple()]


class Samples(unittest.TestCase):
    def test_they_hold_what_the_tests_need(self):
        self.assertEqual({len(net.populations) for net in SIMPLE}, {1, 2, 3})
        self.assertTrue(any(len(net.stations) == 5 and len(net.queues()) < 5 for net in SIMPLE))
        self.assertGreater(len(NOT_SIMPLE), 3)


class MeanValues(unittest.TestCase):
    def test_by_hand(self):
        net = Net([station(QUEUE, 1), station(QUEUE, 2)], [2])
        self.assertEqual(net.ask(("mean_values",)), [[2, 4, 7, 10, 7]])
        net = Net([station(QUEUE, 1), station(DELAY, 2)], [2])
        self.assertEqual(net.ask(("mean_values",)), [[2, 4, 5, 6, 5]])
        net = Net([station(QUEUE, 1, 2)], [1, 1])
        self.assertEqual(net.ask(("mean_values",)), [[1, 2, 1]])

    def test_beside_a_plain_count(self):
        for net in SIMPLE:
            wanted = [net.expected(lambda state: sum(state[place])) for place in net.places()]
            self.assertEqual(net.ask(("mean_values",)), [as_list(wanted)])

    def test_without_customers(self):
        for station_count in range(1, 6):
            for class_count in range(1, 4):
                told = last(("create", station_count, class_count), ("mean_values",))
                self.assertEqual(told, [station_count] + [0, 1] * station_count)

    def test_class_without_customers_and_demand(self):
        net = Net([station(QUEUE, 0, 1, 5), station(QUEUE, 0, 2, 0)], [0, 2, 0])
        self.assertEqual(net.ask(("mean_values",)), [[2, 4, 7, 10, 7]])

    def test_only_delays(self):
        net = Net([station(DELAY, 1, 0), station(DELAY, 3, 5)], [4, 2])
        self.assertEqual(net.ask(("mean_values",)), [[2, 1, 1, 5, 1]])

    def test_not_simple(self):
        for net in NOT_SIMPLE:
            self.assertEqual(net.ask(("mean_values",)), [[-33]])

    def test_a_queue_with_servers_may_become_a_delay(self):
        made = [("create", 2, 1), ("set_demand", 0, 0, 1), ("set_demand", 1, 0, 2), ("set_population", 0, 2)]
        told = run(*made, ("set_station", 1, 0, 2), ("mean_values",), ("set_station", 1, 1, 1), ("mean_values",),
                   ("set_station", 1, 0, 1), ("mean_values",))
        self.assertEqual(told[5::2], [[-33], [2, 4, 5, 6, 5], [2, 4, 7, 10, 7]])

    def test_not_proper(self):
        self.assertEqual(last(*IMPROPER, ("mean_values",)), [-33])


class MvaThroughput(unittest.TestCase):
    def test_by_hand(self):
        net = Net([station(QUEUE, 1), station(QUEUE, 2)], [2])
        self.assertEqual(net.ask(("mva_throughput", 0)), [[0, 3, 7]])
        net = Net([station(QUEUE, 1, 2)], [1, 1])
        self.assertEqual(net.ask(("mva_throughput", 0), ("mva_throughput", 1)), [[0, 1, 2], [0, 1, 4]])

    def test_beside_a_plain_count(self):
        for net in SIMPLE:
            told = net.ask(*[("mva_throughput", customer_class) for customer_class in net.classes()])
            self.assertEqual(told, [as_answer(net.throughput(customer_class)) for customer_class in net.classes()])

    def test_class_without_customers(self):
        net = Net([station(QUEUE, 0, 1, 5), station(QUEUE, 0, 2, 0)], [0, 2, 0])
        self.assertEqual(net.ask(*[("mva_throughput", customer_class) for customer_class in (0, 1, 2)]),
                         [[0, 0, 1], [0, 3, 7], [0, 0, 1]])
        self.assertEqual(last(("create", 1, 1), ("mva_throughput", 0)), [0, 0, 1])

    def test_not_simple(self):
        for net in NOT_SIMPLE:
            for customer_class in net.classes():
                self.assertEqual(net.ask(("mva_throughput", customer_class)), [[-33]])

    def test_order_of_errors(self):
        several = [("create", 1, 2), ("set_station", 0, 0, 2), ("set_demand", 0, 0, 1), ("set_population", 0, 1)]
        for made in (IMPROPER, several):
            told = run(*made, ("mva_throughput", 2), ("mva_throughput", GREATEST), ("mva_throughput", 0),
                       ("mva_throughput", 1))
            self.assertEqual(told[4:], [[-2], [-2], [-33], [-33]])


if __name__ == "__main__":
    unittest.main()
