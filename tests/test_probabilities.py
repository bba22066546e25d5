"""The calls 13 to 17: utilization, marginal, number_probability, idle, state_probability."""

import unittest

from helper import DELAY, GREATEST, IMPROPER, QUEUE, SAMPLES, Net, as_answer, last, run, station

MIXED = Net([station(QUEUE, 1, 3), station(DELAY, 2, 0), station((0, 2), 4, 1)], [2, 1])


def row_of(state):
    return [customers for numbers in state for customers in numbers]


class Utilization(unittest.TestCase):
    def test_by_hand(self):
        net = Net([station(QUEUE, 1), station(QUEUE, 2)], [2])
        self.assertEqual(net.ask(("utilization", 0), ("utilization", 1)), [[0, 3, 7], [0, 6, 7]])

    def test_servers_divide_it(self):
        net = Net([station(QUEUE, 1), station((0, 2), 2)], [2])
        self.assertEqual(net.ask(("utilization", 0), ("utilization", 1)), [[0, 3, 5], [0, 3, 5]])

    def test_all_classes_count(self):
        net = Net([station(QUEUE, 2, 3)], [2, 1])
        self.assertEqual(net.ask(("utilization", 0)), [[0, 1, 1]])

    def test_0_without_demand_or_customers(self):
        net = Net([station(QUEUE, 0), station(DELAY, 7)], [3])
        self.assertEqual(net.ask(("utilization", 0)), [[0, 0, 1]])
        self.assertEqual(last(("create", 1, 3), ("set_demand", 0, 0, 5), ("utilization", 0)), [0, 0, 1])

    def test_a_delay_has_none(self):
        net = Net([station(QUEUE, 1), station(DELAY, 2)], [2])
        self.assertEqual(net.ask(("utilization", 1), ("utilization", 0)), [[-33], [0, 3, 5]])

    def test_beside_a_plain_count(self):
        for net in SAMPLES:
            for place in net.places():
                wanted = [-33] if net.stations[place][0] else as_answer(net.utilization(place))
                self.assertEqual(net.ask(("utilization", place)), [wanted])

    def test_errors(self):
        told = run(*IMPROPER, ("utilization", 0), ("utilization", 2), ("utilization", GREATEST))
        self.assertEqual(told[4:], [[-33], [-2], [-2]])


class Marginal(unittest.TestCase):
    def test_by_hand(self):
        net = Net([station(QUEUE, 1), station(QUEUE, 2)], [2])
        told = net.ask(*[("marginal", place, [customers]) for place in (0, 1) for customers in (0, 1, 2)])
        self.assertEqual(told, [[0, 4, 7], [0, 2, 7], [0, 1, 7], [0, 1, 7], [0, 2, 7], [0, 4, 7]])

    def test_each_class_has_its_own_number(self):
        net = Net([station(QUEUE, 1, 2), station(DELAY, 1, 1)], [1, 1])
        self.assertEqual(net.ask(("marginal", 0, [1, 0]), ("marginal", 0, [0, 1]), ("marginal", 1, [1, 0])),
                         [[0, 1, 8], [0, 1, 4], [0, 1, 4]])

    def test_beside_a_plain_count(self):
        for net in SAMPLES:
            for place in net.places():
                asked = net.all_numbers()
                told = net.ask(*[("marginal", place, list(numbers)) for numbers in asked])
                chances = net.chances(lambda state: state[place])
                self.assertEqual(told, [as_answer(chances.get(numbers, 0)) for numbers in asked])

    def test_0_if_a_number_is_greater_than_the_population(self):
        for numbers in ([3, 0], [0, 2], [12, 12], [3, 2], [12, 0], [0, 12]):
            told = MIXED.ask(*[("marginal", place, numbers) for place in MIXED.places()])
            self.assertEqual(told, [[0, 0, 1]] * 3)

    def test_0_without_demand(self):
        self.assertEqual(MIXED.ask(("marginal", 1, [0, 1]), ("marginal", 1, [2, 1])), [[0, 0, 1]] * 2)

    def test_single_station_holds_all(self):
        net = Net([station((0, 3), 5, 2, 7)], [1, 2, 3])
        told = net.ask(("marginal", 0, [1, 2, 3]), ("marginal", 0, [1, 2, 2]), ("marginal", 0, [0, 0, 0]))
        self.assertEqual(told, [[0, 1, 1], [0, 0, 1], [0, 0, 1]])

    def test_without_customers(self):
        told = run(("create", 1, 2), ("marginal", 0, [0, 0]), ("marginal", 0, [0, 1]))
        self.assertEqual(told[1:], [[0, 1, 1], [0, 0, 1]])

    def test_wrong_numbers(self):
        for numbers in ([], [0], [0, 0, 0], [0] * 16, [13, 0], [0, 13], [GREATEST, 0], [0, GREATEST],
                        [GREATEST] * 16):
            told = MIXED.ask(("marginal", 0, numbers), ("get_population", 0), ("get_population", 1))
            self.assertEqual(told, [[-22], [2], [1]])

    def test_order_of_errors(self):
        told = run(*IMPROPER, ("marginal", 2, []), ("marginal", GREATEST, [13, 0]), ("marginal", 0, [13, 0]),
                   ("marginal", 0, [0]), ("marginal", 0, [0, 0]), ("marginal", 0, [12, 12]), ("marginal", 2, [0, 0]))
        self.assertEqual(told[4:], [[-2], [-2], [-22], [-22], [-33], [-33], [-2]])


class NumberProbability(unittest.TestCase):
    def test_by_hand(self):
        net = Net([station(QUEUE, 1), station(QUEUE, 2)], [2])
        told = net.ask(*[("number_probability", 1, customers) for customers in (0, 1, 2, 3)])
        self.assertEqual(told, [[0, 1, 7], [0, 2, 7], [0, 4, 7], [0, 0, 1]])

    def test_beside_a_plain_count(self):
        for net in SAMPLES:
            asked = range(sum(net.populations) + 2)
            for place in net.places():
                told = net.ask(*[("number_probability", place, customers) for customers in asked])
                chances = net.chances(lambda state: sum(state[place]))
                self.assertEqual(told, [as_answer(chances.get(customers, 0)) for customers in asked])

    def test_more_customers_than_there_are(self):
        for customers in (4, 12, 13, 100):
            self.assertEqual(MIXED.ask(("number_probability", 0, customers)), [[0, 0, 1]])

    def test_out_of_range(self):
        for customers in (101, GREATEST):
            self.assertEqual(MIXED.ask(("number_probability", 0, customers)), [[-22]])

    def test_order_of_errors(self):
        told = run(*IMPROPER, ("number_probability", 2, 101), ("number_probability", GREATEST, 0),
                   ("number_probability", 0, 101), ("number_probability", 0, 0), ("number_probability", 0, 100))
        self.assertEqual(told[4:], [[-2], [-2], [-22], [-33], [-33]])


class Idle(unittest.TestCase):
    def test_by_hand(self):
        net = Net([station(QUEUE, 1), station(QUEUE, 2)], [2])
        self.assertEqual(net.ask(("idle", 0), ("idle", 1)), [[0, 4, 7], [0, 1, 7]])

    def test_is_the_number_probability_of_0(self):
        for net in SAMPLES:
            for place in net.places():
                empty = as_answer(net.chances(lambda state: sum(state[place])).get(0, 0))
                self.assertEqual(net.ask(("idle", place), ("number_probability", place, 0)), [empty] * 2)

    def test_edges(self):
        self.assertEqual(last(("create", 3, 2), ("idle", 2)), [0, 1, 1])
        self.assertEqual(Net([station(QUEUE, 5)], [3]).ask(("idle", 0)), [[0, 0, 1]])
        self.assertEqual(Net([station(QUEUE, 0), station(DELAY, 2)], [3]).ask(("idle", 0)), [[0, 1, 1]])

    def test_errors(self):
        told = run(*IMPROPER, ("idle", 0), ("idle", 1), ("idle", 2), ("idle", GREATEST))
        self.assertEqual(told[4:], [[-33], [-33], [-2], [-2]])


class StateProbability(unittest.TestCase):
    def test_by_hand(self):
        net = Net([station(QUEUE, 1), station(QUEUE, 2)], [2])
        told = net.ask(("state_probability", [2, 0]), ("state_probability", [1, 1]), ("state_probability", [0, 2]))
        self.assertEqual(told, [[0, 1, 7], [0, 2, 7], [0, 4, 7]])

    def test_numbers_of_all_classes_stand_for_each_station(self):
        net = Net([station(QUEUE, 1, 2), station(DELAY, 1, 1)], [1, 1])
        told = net.ask(("state_probability", [1, 0, 0, 1]), ("state_probability", [0, 1, 1, 0]),
                       ("state_probability", [1, 1, 0, 0]), ("state_probability", [0, 0, 1, 1]))
        self.assertEqual(told, [[0, 1, 8], [0, 1, 4], [0, 1, 2], [0, 1, 8]])

    def test_beside_a_plain_count(self):
        for net in SAMPLES:
            weights = net.weights()[::1 + len(net.weights()) // 25]
            told = net.ask(*[("state_probability", row_of(state)) for state, weight in weights])
            self.assertEqual(told, [as_answer(weight / net.norm()) for state, weight in weights])

    def test_all_states_sum_to_1(self):
        for net in (MIXED, Net([station((0, 2), 3), station(DELAY, 2), station(QUEUE, 5)], [5])):
            self.assertEqual(sum(net.value("state_probability", row_of(state)) for state in net.states()), 1)

    def test_without_customers(self):
        told = run(("create", 5, 3), ("state_probability", [0] * 15), ("state_probability", [0] * 14 + [1]))
        self.assertEqual(told[1:], [[0, 1, 1], [-33]])

    def test_wrong_lists(self):
        right = [1, 0, 1, 0, 0, 1]
        self.assertEqual(MIXED.ask(("state_probability", right))[0][0], 0)
        for state in ([], right[:5], right + [0], [0] * 16, [GREATEST] * 16, [13] + right[1:],
                      right[:5] + [13], right[:5] + [GREATEST]):
            told = MIXED.ask(("state_probability", state), ("get_population", 0), ("get_population", 1))
            self.assertEqual(told, [[-22], [2], [1]])

    def test_numbers_that_do_not_sum_to_the_populations(self):
        for state in ([0] * 6, [1, 0, 0, 0, 0, 1], [1, 0, 1, 0, 1, 1], [1, 0, 1, 0, 0, 0], [1, 1, 1, 0, 0, 1],
                      [0, 2, 1, 0, 0, 0], [12] * 6):
            self.assertEqual(MIXED.ask(("state_probability", state)), [[-33]])

    def test_order_of_errors(self):
        told = run(*IMPROPER, ("state_probability", [2, 1, 0, 0]), ("state_probability", [2, 1, 0]),
                   ("state_probability", [1, 13, 0, 0]), ("state_probability", [13, 0, 0, 0]),
                   ("state_probability", [0, 0, 0, 0]))
        self.assertEqual(told[4:], [[-33], [-22], [-22], [-22], [-33]])


if __name__ == "__main__":
    unittest.main()
