"""The calls 6 to 12, by hand and beside a plain count of all states."""

import unittest
from fractions import Fraction

from helper import DELAY, GREATEST, IMPROPER, QUEUE, SAMPLES, Net, as_answer, last, run, station


def pairs_of(net):
    return [(place, customer_class) for place in range(len(net.stations))
            for customer_class in range(len(net.populations))]


class ByHand(unittest.TestCase):
    def test_without_customers(self):
        told = run(("create", 2, 2), ("norm",), ("throughput", 0), ("throughput", 1),
                   ("mean_number", 0, 0), ("station_number", 1), ("busy", 1, 1), ("cycle", 0),
                   ("residence", 0, 1))
        self.assertEqual(told[1:], [[0, 1, 1]] + [[0, 0, 1]] * 5 + [[-6], [-6]])

    def test_one_queue(self):
        net = Net([station(QUEUE, 5)], [4])
        told = net.ask(("norm",), ("throughput", 0), ("cycle", 0), ("mean_number", 0, 0),
                       ("station_number", 0), ("residence", 0, 0), ("busy", 0, 0))
        self.assertEqual(told, [[0, 625, 1], [0, 1, 5], [0, 20, 1], [0, 4, 1], [0, 4, 1],
                                [0, 20, 1], [0, 1, 1]])

    def test_one_delay(self):
        net = Net([station(DELAY, 6)], [4])
        told = net.ask(("norm",), ("throughput", 0), ("cycle", 0), ("mean_number", 0, 0),
                       ("station_number", 0), ("residence", 0, 0), ("busy", 0, 0))
        self.assertEqual(told, [[0, 54, 1], [0, 2, 3], [0, 6, 1], [0, 4, 1], [0, 4, 1],
                                [0, 6, 1], [0, 4, 1]])

    def test_several_servers_and_more_customers(self):
        net = Net([station((0, 3), 6)], [5])
        told = net.ask(("norm",), ("throughput", 0), ("busy", 0, 0), ("residence", 0, 0))
        self.assertEqual(told, [[0, 144, 1], [0, 1, 2], [0, 3, 1], [0, 10, 1]])

    def test_as_many_servers_as_customers_are_like_a_delay(self):
        for servers in (4, 5, 20):
            queue = Net([station((0, servers), 6), station(QUEUE, 5)], [4])
            delay = Net([station(DELAY, 6), station(QUEUE, 5)], [4])
            questions = [("norm",), ("throughput", 0), ("mean_number", 0, 0), ("residence", 1, 0)]
            self.assertEqual(queue.ask(*questions), delay.ask(*questions))

    def test_repeated_customers_of_two_classes_in_one_queue(self):
        net = Net([station(QUEUE, 2, 3)], [2, 1])
        told = net.ask(("norm",), ("throughput", 0), ("throughput", 1), ("mean_number", 0, 1),
                       ("station_number", 0))
        self.assertEqual(told, [[0, 36, 1], [0, 1, 3], [0, 1, 9], [0, 1, 1], [0, 3, 1]])

    def test_two_classes_with_two_servers(self):
        net = Net([station((0, 2), 2, 3)], [2, 1])
        self.assertEqual(net.ask(("norm",), ("throughput", 0)), [[0, 9, 1], [0, 2, 3]])

    def test_class_without_customers(self):
        net = Net([station(QUEUE, 3, 8), station(DELAY, 2, 0)], [2, 0])
        alone = Net([station(QUEUE, 3), station(DELAY, 2)], [2])
        self.assertEqual(net.ask(("norm",), ("throughput", 0), ("mean_number", 0, 0)),
                         alone.ask(("norm",), ("throughput", 0), ("mean_number", 0, 0)))
        told = net.ask(("throughput", 1), ("mean_number", 0, 1), ("busy", 0, 1), ("cycle", 1),
                       ("residence", 0, 1))
        self.assertEqual(told, [[0, 0, 1], [0, 0, 1], [0, 0, 1], [-6], [-6]])

    def test_class_without_customers_needs_no_demand(self):
        net = Net([station(QUEUE, 3, 0)], [2, 0])
        self.assertEqual(net.ask(("norm",), ("throughput", 1)), [[0, 9, 1], [0, 0, 1]])

    def test_demand_0_at_a_station(self):
        net = Net([station(QUEUE, 0), station(QUEUE, 4)], [3])
        told = net.ask(("norm",), ("mean_number", 0, 0), ("residence", 0, 0), ("busy", 0, 0),
                       ("mean_number", 1, 0), ("station_number", 0))
        self.assertEqual(told, [[0, 64, 1], [0, 0, 1], [0, 0, 1], [0, 0, 1], [0, 3, 1], [0, 0, 1]])

    def test_demand_0_and_no_customers_give_the_factor_1(self):
        net = Net([station(QUEUE, 0, 3), station(DELAY, 2, 0), station((0, 2), 0, 0)], [1, 1])
        self.assertEqual(net.ask(("norm",), ("mean_number", 0, 1), ("mean_number", 1, 0)),
                         [[0, 6, 1], [0, 1, 1], [0, 1, 1]])

    def test_results_of_more_than_64_bits(self):
        net = Net([station(QUEUE, 1000)], [12])
        self.assertEqual(net.ask(("norm",)), [[0, 1000 ** 12, 1]])

    def test_measures_follow_each_change(self):
        told = run(("create", 2, 1), ("set_demand", 0, 0, 1), ("set_population", 0, 1),
                   ("throughput", 0), ("set_demand", 1, 0, 3), ("throughput", 0),
                   ("set_population", 0, 2), ("throughput", 0), ("set_station", 1, 1, 1),
                   ("throughput", 0))
        self.assertEqual(told[3::2], [[0, 1, 1], [0, 1, 4], [0, 4, 13], [0, 8, 17]])


class BesideAPlainCount(unittest.TestCase):
    def test_norm(self):
        for net in SAMPLES:
            self.assertEqual(net.ask(("norm",)), [as_answer(net.norm())])

    def test_throughput_cycle_and_busy(self):
        for net in SAMPLES:
            for customer_class, population in enumerate(net.populations):
                rate = net.throughput(customer_class)
                wanted = [as_answer(rate)]
                wanted.append(as_answer(population / rate) if population else [-6])
                questions = [("throughput", customer_class), ("cycle", customer_class)]
                for place, (is_delay, servers, demands) in enumerate(net.stations):
                    questions.append(("busy", place, customer_class))
                    wanted.append(as_answer(demands[customer_class] * rate))
                self.assertEqual(net.ask(*questions), wanted)

    def test_mean_numbers_and_residence(self):
        for net in SAMPLES:
            for place in range(len(net.stations)):
                total = Fraction(0)
                for customer_class, population in enumerate(net.populations):
                    mean = net.mean_number(place, customer_class)
                    total += mean
                    staying = [-6]
                    if population:
                        staying = as_answer(mean / net.throughput(customer_class))
                    told = net.ask(("mean_number", place, customer_class),
                                   ("residence", place, customer_class))
                    self.assertEqual(told, [as_answer(mean), staying])
                self.assertEqual(net.ask(("station_number", place)), [as_answer(total)])


class Errors(unittest.TestCase):
    HALF = [("create", 2, 2), ("set_demand", 1, 0, 3), ("set_population", 0, 2)]

    def test_no_such_station_or_class(self):
        calls = [("throughput", 2), ("cycle", 2), ("mean_number", 2, 0), ("mean_number", 0, 2),
                 ("station_number", 2), ("residence", 2, 0), ("residence", 0, 2), ("busy", 2, 0),
                 ("busy", 0, 2), ("throughput", GREATEST), ("cycle", GREATEST),
                 ("mean_number", GREATEST, 0), ("mean_number", 0, GREATEST),
                 ("station_number", GREATEST), ("residence", GREATEST, 0),
                 ("residence", 0, GREATEST), ("busy", GREATEST, 0), ("busy", 0, GREATEST)]
        for made in (IMPROPER, self.HALF):
            for call in calls:
                self.assertEqual(last(*made, call), [-2], call)

    def test_not_proper(self):
        calls = [("norm",), ("throughput", 0), ("throughput", 1), ("cycle", 0), ("cycle", 1),
                 ("mean_number", 0, 0), ("mean_number", 1, 1), ("station_number", 0),
                 ("station_number", 1), ("residence", 0, 0), ("residence", 1, 1), ("busy", 0, 0),
                 ("busy", 1, 1)]
        for call in calls:
            self.assertEqual(last(*IMPROPER, call), [-33], call)

    def test_proper_as_soon_as_each_class_has_a_demand(self):
        told = run(*IMPROPER, ("norm",), ("set_demand", 1, 1, 1), ("norm",),
                   ("set_demand", 1, 1, 0), ("norm",), ("set_population", 1, 0), ("norm",))
        self.assertEqual(told[4::2], [[-33], [0, 9, 1], [-33], [0, 9, 1]])

    def test_no_customers(self):
        self.assertEqual(run(*self.HALF, ("cycle", 1), ("residence", 0, 1))[-2:], [[-6], [-6]])

    def test_no_customers_is_checked_before_proper(self):
        made = [("create", 1, 2), ("set_population", 0, 1)]
        told = run(*made, ("cycle", 1), ("residence", 0, 1), ("throughput", 1),
                   ("mean_number", 0, 1), ("busy", 0, 1))
        self.assertEqual(told[2:], [[-6], [-6], [-33], [-33], [-33]])

    def test_residence_checks_the_station_before_the_customers(self):
        self.assertEqual(last(*self.HALF, ("residence", 2, 1)), [-2])


if __name__ == "__main__":
    unittest.main()
