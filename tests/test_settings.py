"""The calls 0 to 5: create, set_station, set_demand, set_population, get_demand, get_population."""

import unittest

from helper import GREATEST, last, run


class Create(unittest.TestCase):
    def test_all_sizes(self):
        for station_count in range(1, 6):
            for class_count in range(1, 4):
                told = run(("create", station_count, class_count),
                           ("get_demand", station_count - 1, class_count - 1),
                           ("get_demand", station_count, class_count - 1),
                           ("get_demand", station_count - 1, class_count))
                self.assertEqual(told, [[0], [0], [-2], [-2]])

    def test_sizes_out_of_range(self):
        for station_count, class_count in [(0, 1), (6, 1), (1, 0), (1, 4), (0, 0), (6, 4),
                                           (GREATEST, 1), (1, GREATEST), (GREATEST, GREATEST)]:
            told = run(("create", station_count, class_count), ("get_population", 0))
            self.assertEqual(told, [[-22], [-11]])

    def test_new_network_has_no_demands_and_customers(self):
        told = run(("create", 2, 2), ("get_demand", 0, 0), ("get_demand", 0, 1),
                   ("get_demand", 1, 0), ("get_demand", 1, 1), ("get_population", 0),
                   ("get_population", 1))
        self.assertEqual(told, [[0]] * 7)

    def test_new_stations_are_queues_with_one_server(self):
        made = [("create", 1, 1), ("set_demand", 0, 0, 2), ("set_population", 0, 3), ("norm",)]
        self.assertEqual(last(*made), [0, 8, 1])

    def test_replaces_the_network(self):
        told = run(("create", 2, 2), ("set_station", 0, 1, 1), ("set_station", 1, 0, 2),
                   ("set_demand", 0, 0, 5), ("set_demand", 1, 0, 5), ("set_population", 0, 4),
                   ("set_population", 1, 7), ("create", 2, 1), ("get_demand", 0, 0),
                   ("get_population", 0), ("get_population", 1), ("set_population", 0, 2),
                   ("set_demand", 0, 0, 3), ("norm",), ("set_demand", 0, 0, 0),
                   ("set_demand", 1, 0, 3), ("norm",))
        self.assertEqual(told[7:], [[0], [0], [0], [-2], [0], [0], [0, 9, 1], [3], [0], [0, 9, 1]])

    def test_failure_keeps_the_network(self):
        for station_count, class_count in [(0, 1), (6, 1), (1, 0), (1, 4), (GREATEST, GREATEST)]:
            told = run(("create", 2, 1), ("set_station", 1, 1, 1), ("set_demand", 0, 0, 4),
                       ("set_demand", 1, 0, 6), ("set_population", 0, 2), ("norm",),
                       ("create", station_count, class_count), ("norm",), ("get_demand", 1, 0),
                       ("get_population", 0))
            self.assertEqual(told[5:], [[0, 58, 1], [-22], [0, 58, 1], [6], [2]])


class BeforeCreate(unittest.TestCase):
    def test_every_call_answers_that_there_is_no_instance(self):
        calls = [("set_station", 0, 0, 1), ("set_demand", 0, 0, 1), ("set_population", 0, 1),
                 ("get_demand", 0, 0), ("get_population", 0), ("norm",), ("throughput", 0),
                 ("cycle", 0), ("mean_number", 0, 0), ("station_number", 0), ("residence", 0, 0),
                 ("busy", 0, 0)]
        for call in calls:
            wrong = call[:1] + (GREATEST,) * (len(call) - 1)
            self.assertEqual(run(call, wrong), [[-11], [-11]])

    def test_the_later_calls_too(self):
        calls = [("utilization", 0), ("marginal", 0, [1, 7]), ("number_probability", 0, 1),
                 ("idle", 0), ("state_probability", [0, 1, 2]), ("mean_values",),
                 ("mva_throughput", 0), ("arrival_sees", 0, 0), ("curve", 0, 1),
                 ("fewest_customers", 0, 1, 1), ("gain", 0, 0, 1), ("bottleneck",), ("summary",)]
        self.assertEqual(run(*calls), [[-11]] * 13)
        for call in calls:
            self.assertEqual(run(call, ("create", 1, 1), ("get_population", 0)), [[-11], [0], [0]])

    def test_rows_are_read_whole(self):
        for row in ([], [0], [GREATEST] * 16):
            told = run(("marginal", 0, row), ("create", 1, 1), ("get_population", 0))
            self.assertEqual(told, [[-11], [0], [0]])
            told = run(("state_probability", row), ("create", 1, 1), ("get_population", 0))
            self.assertEqual(told, [[-11], [0], [0]])

    def test_after_a_failed_create(self):
        self.assertEqual(run(("create", 0, 0), ("norm",)), [[-22], [-11]])


class SetStation(unittest.TestCase):
    def test_ranges(self):
        accepted = [(0, 1), (0, 2), (0, 20), (1, 1)]
        refused = [(0, 0), (0, 21), (0, GREATEST), (1, 0), (1, 2), (1, 20), (1, 21),
                   (2, 1), (GREATEST, 1), (GREATEST, GREATEST)]
        for is_delay, servers in accepted:
            self.assertEqual(last(("create", 1, 1), ("set_station", 0, is_delay, servers)), [0])
        for is_delay, servers in refused:
            self.assertEqual(last(("create", 1, 1), ("set_station", 0, is_delay, servers)), [-22])

    def test_no_such_station(self):
        for station in (2, 3, GREATEST):
            self.assertEqual(last(("create", 2, 1), ("set_station", station, 0, 1)), [-2])

    def test_station_is_checked_first(self):
        self.assertEqual(last(("create", 2, 1), ("set_station", 2, 2, 0)), [-2])

    def test_each_kind_has_its_norm(self):
        made = [("create", 1, 1), ("set_demand", 0, 0, 2), ("set_population", 0, 3)]
        told = run(*made, ("set_station", 0, 0, 2), ("norm",), ("set_station", 0, 1, 1), ("norm",),
                   ("set_station", 0, 0, 3), ("norm",), ("set_station", 0, 0, 1), ("norm",))
        self.assertEqual(told[4::2], [[0, 2, 1], [0, 4, 3], [0, 4, 3], [0, 8, 1]])

    def test_sets_the_named_station_alone(self):
        made = [("create", 3, 1), ("set_demand", 0, 0, 1), ("set_demand", 1, 0, 2),
                ("set_demand", 2, 0, 4), ("set_population", 0, 2), ("set_station", 1, 1, 1)]
        self.assertEqual(last(*made, ("norm",)), [0, 1 + 2 + 16 + 2 + 4 + 8, 1])

    def test_refusal_changes_nothing(self):
        made = [("create", 1, 1), ("set_demand", 0, 0, 2), ("set_population", 0, 3),
                ("set_station", 0, 0, 2)]
        for refused in [(0, 0, 0), (0, 1, 2), (0, 2, 1), (1, 1, 1)]:
            told = run(*made, ("set_station",) + refused, ("norm",))
            self.assertLess(told[-2][0], 0)
            self.assertEqual(told[-1], [0, 2, 1])


class Demands(unittest.TestCase):
    def test_previous_demand_is_answered(self):
        told = run(("create", 2, 2), ("set_demand", 1, 0, 1000), ("set_demand", 1, 0, 7),
                   ("get_demand", 1, 0), ("set_demand", 1, 0, 0), ("get_demand", 1, 0))
        self.assertEqual(told[1:], [[0], [1000], [7], [7], [0]])

    def test_each_demand_stands_for_itself(self):
        pairs = [(station, customer_class) for station in range(5) for customer_class in range(3)]
        sets = [("set_demand", station, customer_class, 10 * station + customer_class + 1)
                for station, customer_class in pairs]
        gets = [("get_demand", station, customer_class) for station, customer_class in pairs]
        told = run(("create", 5, 3), *sets, *gets)
        self.assertEqual(told[16:], [[10 * station + customer_class + 1]
                                     for station, customer_class in pairs])

    def test_wrong_arguments(self):
        for arguments, code in [((2, 0, 1), -2), ((0, 3, 1), -2), ((GREATEST, 0, 1), -2),
                                ((0, GREATEST, 1), -2), ((0, 0, 1001), -22),
                                ((0, 0, GREATEST), -22), ((2, 0, 1001), -2), ((0, 3, 1001), -2),
                                ((GREATEST, GREATEST, GREATEST), -2)]:
            told = run(("create", 2, 3), ("set_demand", 0, 0, 5), ("set_demand",) + arguments,
                       ("get_demand", 0, 0))
            self.assertEqual(told[2:], [[code], [5]])

    def test_get_of_what_is_not_there(self):
        for station, customer_class in [(2, 0), (0, 3), (GREATEST, 0), (0, GREATEST)]:
            self.assertEqual(last(("create", 2, 3), ("get_demand", station, customer_class)), [-2])


class Populations(unittest.TestCase):
    def test_previous_population_is_answered(self):
        told = run(("create", 1, 2), ("set_population", 1, 12), ("set_population", 1, 3),
                   ("get_population", 1), ("get_population", 0), ("set_population", 1, 0),
                   ("get_population", 1))
        self.assertEqual(told[1:], [[0], [12], [3], [0], [3], [0]])

    def test_wrong_arguments(self):
        for arguments, code in [((2, 1), -2), ((GREATEST, 1), -2), ((0, 13), -22),
                                ((0, GREATEST), -22), ((2, 13), -2), ((GREATEST, GREATEST), -2)]:
            told = run(("create", 1, 2), ("set_population", 0, 5), ("set_population",) + arguments,
                       ("get_population", 0))
            self.assertEqual(told[2:], [[code], [5]])

    def test_get_of_what_is_not_there(self):
        for customer_class in (2, GREATEST):
            self.assertEqual(last(("create", 1, 2), ("get_population", customer_class)), [-2])

    def test_product_just_40(self):
        for populations in [(4, 7), (7, 4), (3, 9), (9, 3), (1, 3, 4), (4, 3, 1), (1, 1, 9),
                            (0, 3, 9), (12, 2, 0), (12, 1, 0)]:
            sets = [("set_population", customer_class, population)
                    for customer_class, population in enumerate(populations)]
            told = run(("create", 1, len(populations)), *sets)
            self.assertEqual(told[1:], [[0]] * len(populations))

    def test_product_just_above_40(self):
        for populations in [(5, 6), (6, 5), (1, 2, 6), (6, 2, 1), (2, 6, 1), (10, 3), (3, 10),
                            (12, 3), (3, 0, 10), (1, 1, 10)]:
            sets = [("set_population", customer_class, population)
                    for customer_class, population in enumerate(populations)]
            greatest = len(populations) - 1
            told = run(("create", 1, len(populations)), *sets, ("get_population", greatest),
                       ("get_population", 0))
            self.assertEqual(told[greatest + 1:], [[-28], [0], [populations[0]]])

    def test_range_is_checked_before_the_product(self):
        told = run(("create", 1, 2), ("set_population", 0, 3), ("set_population", 1, 13),
                   ("set_population", 1, 12))
        self.assertEqual(told[2:], [[-22], [-28]])

    def test_only_the_new_populations_count(self):
        told = run(("create", 1, 2), ("set_population", 0, 9), ("set_population", 1, 3),
                   ("set_population", 0, 9), ("set_population", 0, 10), ("set_population", 0, 4),
                   ("set_population", 1, 7), ("set_population", 1, 8), ("get_population", 0),
                   ("get_population", 1))
        self.assertEqual(told[3:], [[9], [-28], [9], [3], [-28], [4], [7]])


if __name__ == "__main__":
    unittest.main()
