"""The calls 20 to 23: arrival_sees, curve, fewest_customers, gain."""

import unittest
from fractions import Fraction

from helper import DELAY, GREATEST, IMPROPER, QUEUE, SAMPLES, Net, as_answer, as_list, last, run, station

TWO = Net([station(QUEUE, 1), station(QUEUE, 2)], [2])
HALF = [("create", 2, 2), ("set_demand", 1, 0, 3), ("set_population", 0, 2)]


def room_for(net, customer_class):
    """The greatest population of the class beside the others."""
    product = 1
    for number, population in enumerate(net.populations):
        if number != customer_class:
            product *= population + 1
    return min(12, 40 // product - 1)


class ArrivalSees(unittest.TestCase):
    def test_by_hand(self):
        self.assertEqual(TWO.ask(("arrival_sees", 0, 0), ("arrival_sees", 1, 0)), [[0, 1, 3], [0, 2, 3]])

    def test_beside_a_plain_count(self):
        for net in SAMPLES:
            for customer_class, population in enumerate(net.populations):
                for place in net.places():
                    wanted = [-6]
                    if population:
                        wanted = as_answer(net.less(customer_class).expected(lambda state: sum(state[place])))
                    self.assertEqual(net.ask(("arrival_sees", place, customer_class)), [wanted])

    def test_the_last_customer_sees_nobody_of_its_class(self):
        net = Net([station(QUEUE, 3, 4)], [1, 0])
        self.assertEqual(net.ask(("arrival_sees", 0, 0), ("arrival_sees", 0, 1)), [[0, 0, 1], [-6]])
        net = Net([station(QUEUE, 3, 4)], [1, 2])
        self.assertEqual(net.ask(("arrival_sees", 0, 0), ("arrival_sees", 0, 1)), [[0, 2, 1], [0, 2, 1]])

    def test_order_of_errors(self):
        told = run(*HALF, ("arrival_sees", 2, 1), ("arrival_sees", 0, 2), ("arrival_sees", GREATEST, 0),
                   ("arrival_sees", 0, GREATEST), ("arrival_sees", 0, 1))
        self.assertEqual(told[3:], [[-2], [-2], [-2], [-2], [-6]])
        told = run(*IMPROPER, ("arrival_sees", 0, 0), ("arrival_sees", 0, 1), ("arrival_sees", 2, 0),
                   ("set_population", 0, 0), ("arrival_sees", 0, 0), ("arrival_sees", 0, 1))
        self.assertEqual(told[4:], [[-33], [-33], [-2], [2], [-6], [-33]])


class Curve(unittest.TestCase):
    def test_by_hand(self):
        self.assertEqual(TWO.ask(("curve", 0, 3)), [[4, 0, 1, 1, 3, 3, 7, 7, 15]])

    def test_most_0_and_12(self):
        net = Net([station(DELAY, 3)], [5])
        self.assertEqual(net.ask(("curve", 0, 0)), [[1, 0, 1]])
        self.assertEqual(net.ask(("curve", 0, 12)), [as_list([Fraction(customers, 3) for customers in range(13)])])

    def test_beside_a_plain_count(self):
        for net in SAMPLES:
            for customer_class in net.classes():
                if not any(demands[customer_class] for is_delay, servers, demands in net.stations):
                    continue
                room = min(room_for(net, customer_class), net.populations[customer_class] + 1)
                rates = [net.with_population(customer_class, customers).throughput(customer_class)
                         for customers in range(room + 1)]
                for most in (0, room // 2, room):
                    self.assertEqual(net.ask(("curve", customer_class, most)), [as_list(rates[:most + 1])])

    def test_the_other_populations_remain(self):
        net = Net([station(QUEUE, 1, 2)], [1, 1])
        told = net.ask(("curve", 0, 2), ("get_population", 0), ("get_population", 1), ("curve", 1, 1))
        self.assertEqual(told, [[3, 0, 1, 1, 2, 2, 3], [1], [1], [2, 0, 1, 1, 4]])

    def test_out_of_range(self):
        for most in (13, GREATEST):
            self.assertEqual(TWO.ask(("curve", 0, most), ("get_population", 0)), [[-22], [2]])

    def test_product(self):
        net = Net([station(QUEUE, 1, 2)], [9, 3])
        told = net.ask(("curve", 1, 4), ("curve", 0, 10), ("curve", 1, 12), ("curve", 0, 12), ("get_population", 0),
                       ("get_population", 1))
        self.assertEqual(told, [[-28]] * 4 + [[9], [3]])
        told = net.ask(("curve", 1, 3), ("curve", 0, 9))
        self.assertEqual([answer[0] for answer in told], [4, 10])

    def test_most_0_is_allowed_beside_full_populations(self):
        # With one customer of class 0 the product would be 80; it is asked of `most` customers alone.
        net = Net([station(QUEUE, 1, 2, 3)], [0, 3, 9])
        self.assertEqual(net.ask(("curve", 0, 0), ("curve", 0, 1)), [[1, 0, 1], [-28]])

    def test_not_proper_with_a_customer(self):
        net = Net([station(QUEUE, 0, 4)], [0, 2])
        self.assertEqual(net.ask(("curve", 0, 0), ("curve", 0, 3), ("throughput", 0)), [[-33], [-33], [0, 0, 1]])
        self.assertEqual(net.ask(("curve", 1, 2)), [[3, 0, 1, 1, 4, 1, 4]])

    def test_not_proper_for_another_class(self):
        told = run(*IMPROPER, ("curve", 0, 1), ("curve", 0, 0), ("curve", 1, 1), ("curve", 1, 0))
        self.assertEqual(told[4:], [[-33]] * 4)

    def test_present_customers_do_not_count(self):
        told = run(*HALF, ("curve", 0, 1), ("set_population", 0, 0), ("curve", 0, 1))
        self.assertEqual(told[3::2], [[2, 0, 1, 1, 3], [2, 0, 1, 1, 3]])

    def test_order_of_errors(self):
        made = [("create", 1, 3), ("set_population", 0, 9), ("set_population", 1, 3)]
        told = run(*made, ("curve", 3, 13), ("curve", 3, 1), ("curve", GREATEST, GREATEST), ("curve", 2, 13),
                   ("curve", 2, 12), ("curve", 2, 1), ("curve", 2, 0), ("curve", 0, 9))
        self.assertEqual(told[3:], [[-2], [-2], [-2], [-22], [-28], [-28], [-33], [-33]])


class FewestCustomers(unittest.TestCase):
    def test_by_hand(self):
        told = TWO.ask(("fewest_customers", 0, 2, 5), ("fewest_customers", 0, 1, 2), ("fewest_customers", 0, 1, 3),
                       ("fewest_customers", 0, 3, 7), ("fewest_customers", 0, 4, 9), ("fewest_customers", 0, 0, 7))
        self.assertEqual(told, [[2], [-33], [1], [2], [3], [0]])

    def test_goals_that_are_not_in_lowest_terms(self):
        told = TWO.ask(("fewest_customers", 0, 300, 700), ("fewest_customers", 0, 300001, 700000),
                       ("fewest_customers", 0, 0, 1000000))
        self.assertEqual(told, [[2], [3], [0]])

    def test_all_12(self):
        net = Net([station(DELAY, 1)], [0])
        told = net.ask(*[("fewest_customers", 0, goal, 1) for goal in range(14)])
        self.assertEqual(told, [[goal] for goal in range(13)] + [[-33]])

    def test_the_product_bounds_it(self):
        net = Net([station(DELAY, 1, 1, 1)], [0, 3, 1])
        told = net.ask(*[("fewest_customers", 0, goal, 1) for goal in (3, 4, 5, 12)])
        self.assertEqual(told, [[3], [4], [-33], [-33]])
        for others, most in [((3, 9), 0), ((3, 3), 1), ((2, 3), 2), ((0, 9), 3), ((1, 2), 5), ((1, 1), 9),
                             ((0, 2), 12)]:
            net = Net([station(DELAY, 1, 1, 1)], (0,) + others)
            told = net.ask(("fewest_customers", 0, most, 1), ("fewest_customers", 0, most + 1, 1))
            self.assertEqual(told, [[most], [-33]])
        net = Net([station(DELAY, 1, 1, 1)], [0, 3, 9])
        self.assertEqual(net.ask(("fewest_customers", 0, 0, 1), ("fewest_customers", 0, 1, 1000000)), [[0], [-33]])

    def test_the_other_populations_remain(self):
        net = Net([station(QUEUE, 1, 2)], [1, 1])
        told = net.ask(("fewest_customers", 0, 1, 2), ("fewest_customers", 0, 2, 3), ("fewest_customers", 0, 3, 4),
                       ("get_population", 0), ("get_population", 1), ("throughput", 0))
        self.assertEqual(told, [[1], [2], [3], [1], [1], [0, 1, 2]])

    def test_beside_a_plain_count(self):
        for net in SAMPLES:
            for customer_class in net.classes():
                if not any(demands[customer_class] for is_delay, servers, demands in net.stations):
                    continue
                room = min(room_for(net, customer_class), 3)
                for customers in range(room + 1):
                    rate = net.with_population(customer_class, customers).throughput(customer_class)
                    goal = rate.limit_denominator(10000)
                    wanted = self.fewest(net, customer_class, goal, room)
                    if wanted is not None:
                        told = net.ask(("fewest_customers", customer_class, goal.numerator, goal.denominator))
                        self.assertEqual(told, [[wanted]])

    def fewest(self, net, customer_class, goal, room):
        for customers in range(room + 1):
            if net.with_population(customer_class, customers).throughput(customer_class) >= goal:
                return customers
        return None

    def test_out_of_range(self):
        for num, den in [(1000001, 1), (GREATEST, 1), (0, 0), (1, 0), (0, 1000001), (0, GREATEST),
                         (GREATEST, GREATEST), (1000001, 0)]:
            self.assertEqual(TWO.ask(("fewest_customers", 0, num, den), ("get_population", 0)), [[-22], [2]])

    def test_not_proper_with_a_customer(self):
        net = Net([station(QUEUE, 0, 4)], [0, 2])
        self.assertEqual(net.ask(("fewest_customers", 0, 0, 1), ("fewest_customers", 1, 1, 4)), [[-33], [1]])
        told = run(*IMPROPER, ("fewest_customers", 0, 0, 1), ("fewest_customers", 1, 0, 1))
        self.assertEqual(told[4:], [[-33], [-33]])

    def test_order_of_errors(self):
        told = run(*IMPROPER, ("fewest_customers", 2, 1000001, 0), ("fewest_customers", GREATEST, 0, 1),
                   ("fewest_customers", 0, 1000001, 1), ("fewest_customers", 1, 0, 0), ("fewest_customers", 1, 0, 1))
        self.assertEqual(told[4:], [[-2], [-2], [-22], [-22], [-33]])


class Gain(unittest.TestCase):
    def test_by_hand(self):
        self.assertEqual(TWO.ask(("gain", 1, 0, 1)), [[1, 5, 21]])

    def test_below_0_and_0(self):
        told = TWO.ask(("gain", 1, 0, 5), ("gain", 1, 0, 2), ("gain", 0, 0, 2))
        self.assertEqual(told, [[1, -51, 217], [1, 0, 1], [1, -2, 21]])

    def test_all_classes_are_told(self):
        net = Net([station(QUEUE, 1, 2)], [1, 1])
        self.assertEqual(net.ask(("gain", 0, 0, 2)), [[2, -1, 4, 0, 1]])
        net = Net([station(QUEUE, 1, 2, 7)], [1, 1, 0])
        self.assertEqual(net.ask(("gain", 0, 2, 9), ("gain", 0, 1, 1)), [[3, 0, 1, 0, 1, 0, 1], [3, 0, 1, 1, 4, 0, 1]])

    def test_beside_a_plain_count(self):
        for net in SAMPLES:
            for customer_class in net.classes():
                place = customer_class % len(net.stations)
                for demand in (1, 6, 1000):
                    other = net.with_demand(place, customer_class, demand)
                    wanted = [other.throughput(one) - net.throughput(one) for one in net.classes()]
                    self.assertEqual(net.ask(("gain", place, customer_class, demand)), [as_list(wanted)])

    def test_the_network_stays_as_it_is(self):
        net = Net([station((0, 2), 1, 4), station(DELAY, 2, 3)], [2, 1])
        seen = [("norm",), ("get_demand", 0, 0), ("get_demand", 0, 1), ("throughput", 0), ("utilization", 0)]
        told = net.ask(*seen, ("gain", 0, 0, 9), ("gain", 1, 1, 0), ("gain", 0, 0, 1001), *seen)
        self.assertEqual(told[:5], told[8:])

    def test_several_servers_and_delays_stay_so(self):
        for kind in (DELAY, (0, 2), (0, 5)):
            net = Net([station(kind, 6), station(QUEUE, 1)], [4])
            wanted = net.with_demand(0, 0, 8).throughput(0) - net.throughput(0)
            self.assertEqual(net.ask(("gain", 0, 0, 8)), [as_list([wanted])])

    def test_would_not_be_proper(self):
        net = Net([station(QUEUE, 3, 2), station(QUEUE, 0, 1)], [2, 0])
        told = net.ask(("gain", 0, 0, 0), ("gain", 1, 0, 0), ("gain", 0, 1, 0), ("gain", 1, 1, 0), ("get_demand", 0, 0))
        self.assertEqual(told, [[-33], [2, 0, 1, 0, 1], [2, 0, 1, 0, 1], [2, 0, 1, 0, 1], [3]])

    def test_is_not_proper(self):
        told = run(*IMPROPER, ("gain", 0, 1, 5), ("gain", 0, 0, 5), ("get_demand", 0, 1))
        self.assertEqual(told[4:], [[-33], [-33], [0]])

    def test_without_customers(self):
        self.assertEqual(last(("create", 1, 2), ("gain", 0, 0, 0)), [2, 0, 1, 0, 1])

    def test_errors_and_their_order(self):
        told = run(*IMPROPER, ("gain", 2, 0, 1001), ("gain", 0, 2, 1001), ("gain", GREATEST, 0, 1),
                   ("gain", 0, GREATEST, 1), ("gain", 0, 0, 1001), ("gain", 0, 0, GREATEST), ("gain", 0, 0, 1000))
        self.assertEqual(told[4:], [[-2], [-2], [-2], [-2], [-22], [-22], [-33]])


if __name__ == "__main__":
    unittest.main()
