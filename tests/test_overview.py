"""The calls 24 and 25: bottleneck, summary."""

import unittest

from helper import DELAY, IMPROPER, QUEUE, SAMPLES, Net, as_answer, last, run, station


class Bottleneck(unittest.TestCase):
    def test_by_hand(self):
        net = Net([station(QUEUE, 1), station(QUEUE, 2)], [2])
        self.assertEqual(net.ask(("bottleneck",)), [[1, 6, 7]])
        net = Net([station(QUEUE, 2), station(QUEUE, 1)], [2])
        self.assertEqual(net.ask(("bottleneck",)), [[0, 6, 7]])

    def test_servers_count(self):
        net = Net([station(QUEUE, 3), station((0, 2), 5), station((0, 20), 19)], [1])
        self.assertEqual(net.ask(("bottleneck",)), [[0, 1, 9]])

    def test_the_smallest_number_in_a_tie(self):
        for stations, first in [([station(QUEUE, 4), station(QUEUE, 4)], 0),
                                ([station(DELAY, 9), station(QUEUE, 4), station(QUEUE, 4)], 1),
                                ([station(QUEUE, 1), station((0, 2), 8), station(QUEUE, 4)], 1),
                                ([station(QUEUE, 1), station(QUEUE, 4), station((0, 2), 8)], 1)]:
            told = Net(stations, [3]).ask(("bottleneck",), ("utilization", first))
            self.assertEqual(told[0], [first] + told[1][1:])

    def test_utilizations_that_differ_by_little(self):
        net = Net([station(QUEUE, 999), station(DELAY, 1000), station(QUEUE, 1000)], [12])
        self.assertEqual(net.ask(("bottleneck",))[0][0], 2)

    def test_delays_are_never_the_bottleneck(self):
        net = Net([station(DELAY, 1000), station(QUEUE, 1), station(DELAY, 5)], [3])
        told = net.ask(("bottleneck",), ("utilization", 1))
        self.assertEqual(told[0], [1] + told[1][1:])

    def test_queues_of_utilization_0(self):
        net = Net([station(DELAY, 7), station(QUEUE, 0), station(QUEUE, 0)], [3])
        self.assertEqual(net.ask(("bottleneck",)), [[1, 0, 1]])
        self.assertEqual(last(("create", 5, 3), ("bottleneck",)), [0, 0, 1])

    def test_only_delays(self):
        self.assertEqual(Net([station(DELAY, 7), station(DELAY, 5)], [3]).ask(("bottleneck",)), [[-33]])
        self.assertEqual(last(("create", 1, 1), ("set_station", 0, 1, 1), ("bottleneck",)), [-33])

    def test_not_proper(self):
        self.assertEqual(last(*IMPROPER, ("bottleneck",)), [-33])

    def test_beside_a_plain_count(self):
        for net in SAMPLES:
            wanted = [-33]
            if net.queues():
                greatest = max(net.utilization(place) for place in net.queues())
                first = [place for place in net.queues() if net.utilization(place) == greatest][0]
                wanted = [first] + as_answer(greatest)[1:]
            self.assertEqual(net.ask(("bottleneck",)), [wanted])


class Summary(unittest.TestCase):
    def test_new_networks(self):
        for station_count in range(1, 6):
            for class_count in range(1, 4):
                told = last(("create", station_count, class_count), ("summary",))
                self.assertEqual(told, [station_count, class_count, 0, 1, 1])

    def test_samples(self):
        for net in SAMPLES:
            wanted = [len(net.stations), len(net.populations), sum(net.populations), 1, int(net.is_simple())]
            self.assertEqual(net.ask(("summary",)), [wanted])

    def test_not_proper_is_no_error(self):
        self.assertEqual(last(*IMPROPER, ("summary",)), [2, 2, 3, 0, 1])
        told = run(*IMPROPER, ("summary",), ("set_demand", 1, 1, 1), ("summary",), ("set_demand", 1, 1, 0),
                   ("summary",), ("set_population", 1, 0), ("summary",))
        self.assertEqual(told[4::2], [[2, 2, 3, 0, 1], [2, 2, 3, 1, 1], [2, 2, 3, 0, 1], [2, 2, 2, 1, 1]])

    def test_simple(self):
        told = run(("create", 2, 1), ("set_station", 1, 0, 2), ("summary",), ("set_station", 1, 1, 1), ("summary",),
                   ("set_station", 0, 0, 20), ("summary",), ("set_station", 0, 0, 1), ("summary",))
        self.assertEqual([answer[4] for answer in told[2::2]], [0, 1, 0, 1])

    def test_neither_proper_nor_simple(self):
        told = last(("create", 1, 1), ("set_station", 0, 0, 3), ("set_population", 0, 12), ("summary",))
        self.assertEqual(told, [1, 1, 12, 0, 0])


if __name__ == "__main__":
    unittest.main()
