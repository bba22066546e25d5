"""The points 1 to 6 of the document's requirements, and the interface's last paragraph."""

import contextlib
import io
import unittest
from math import gcd

from closedqueues.networks import answers
from helper import DELAY, GREATEST, NUMBERS, QUEUE, SAMPLES, Net, as_fraction, as_list, run, station, written

SEEN = [("norm",), ("throughput", 0), ("mean_number", 0, 0), ("busy", 0, 0), ("get_population", 0),
        ("get_demand", 0, 0), ("bottleneck",), ("summary",)]
QUESTIONS = [("cycle", 0), ("station_number", 0), ("residence", 0, 0), ("utilization", 0), ("marginal", 0, [1]),
             ("marginal", 0, [0, 1]), ("marginal", 0, [1, 0, 0]), ("number_probability", 0, 1), ("idle", 0),
             ("state_probability", [1]), ("state_probability", [1, 1]), ("state_probability", [1, 0, 0, 1]),
             ("mean_values",), ("mva_throughput", 0), ("arrival_sees", 0, 0), ("curve", 0, 0), ("curve", 0, 2),
             ("curve", 0, 12), ("fewest_customers", 0, 0, 1), ("fewest_customers", 0, 1, 8),
             ("fewest_customers", 0, 1000000, 1), ("gain", 0, 0, 0), ("gain", 0, 0, 7)]
REFUSED = [("create", 0, 1), ("create", 1, 4), ("create", GREATEST, GREATEST),
           ("set_station", 5, 1, 1), ("set_station", 0, 2, 1), ("set_station", 0, 1, 3),
           ("set_station", 0, 0, 21), ("set_demand", 5, 0, 1), ("set_demand", 0, 3, 1),
           ("set_demand", 0, 0, 1001), ("set_population", 3, 1), ("set_population", 0, 13),
           ("get_demand", 5, 0), ("get_population", 3), ("throughput", 3), ("cycle", 3),
           ("mean_number", 5, 0), ("station_number", 5), ("residence", 0, 3), ("busy", 5, 3),
           ("utilization", 5), ("marginal", 5, [0]), ("marginal", 0, []), ("marginal", 0, [0] * 16),
           ("number_probability", 5, 0), ("number_probability", 0, 101), ("idle", 5),
           ("state_probability", []), ("state_probability", [0] * 16), ("mva_throughput", 3),
           ("arrival_sees", 5, 0), ("arrival_sees", 0, 3), ("curve", 3, 1), ("curve", 0, 13),
           ("fewest_customers", 3, 0, 1), ("fewest_customers", 0, 1000001, 1),
           ("fewest_customers", 0, 0, 0), ("fewest_customers", 0, 1000000, 1), ("gain", 5, 0, 1),
           ("gain", 0, 3, 1), ("gain", 0, 0, 1001)]
SIMPLE = [net for net in SAMPLES if net.is_simple()]


class Agreement(unittest.TestCase):
    def test_mean_value_analysis_and_product_form(self):
        for net in SIMPLE:
            told = net.ask(("mean_values",))[0]
            self.assertEqual(told[0], len(net.stations))
            for place, answer in enumerate(net.ask(*[("station_number", place) for place in net.places()])):
                self.assertEqual(answer[1:], told[1 + 2 * place:3 + 2 * place])
            for customer_class in net.classes():
                first, second = net.ask(("mva_throughput", customer_class), ("throughput", customer_class))
                self.assertEqual(first, second)


class Probabilities(unittest.TestCase):
    def test_marginal_probabilities_sum_to_1(self):
        for net in SAMPLES:
            for place in net.places():
                told = net.ask(*[("marginal", place, list(numbers)) for numbers in net.all_numbers()])
                self.assertEqual(sum(as_fraction(answer) for answer in told), 1)

    def test_number_probabilities_sum_to_1(self):
        for net in SAMPLES:
            for place in net.places():
                told = net.ask(*[("number_probability", place, customers)
                                 for customers in range(sum(net.populations) + 1)])
                self.assertEqual(sum(as_fraction(answer) for answer in told), 1)

    def test_mean_numbers_are_what_the_marginal_probabilities_tell(self):
        for net in SAMPLES:
            for place in net.places():
                asked = net.all_numbers()
                told = net.ask(*[("marginal", place, list(numbers)) for numbers in asked])
                for customer_class in net.classes():
                    mean = sum(numbers[customer_class] * as_fraction(answer) for numbers, answer in zip(asked, told))
                    self.assertEqual(mean, net.value("mean_number", place, customer_class))


class Customers(unittest.TestCase):
    def test_mean_numbers_of_a_class_sum_to_its_population(self):
        for net in SAMPLES:
            for customer_class, population in enumerate(net.populations):
                total = sum(net.value("mean_number", place, customer_class)
                            for place in range(len(net.stations)))
                self.assertEqual(total, population)

    def test_residence_times_of_a_class_sum_to_its_cycle_time(self):
        for net in SAMPLES:
            for customer_class, population in enumerate(net.populations):
                if population:
                    total = sum(net.value("residence", place, customer_class)
                                for place in range(len(net.stations)))
                    self.assertEqual(total, net.value("cycle", customer_class))

    def test_station_numbers_sum_to_all_customers(self):
        for net in SAMPLES:
            total = sum(net.value("station_number", place) for place in range(len(net.stations)))
            self.assertEqual(total, sum(net.populations))


class ArrivalTheorem(unittest.TestCase):
    def test_residence_at_a_queue_with_one_server(self):
        compared = 0
        for net in SAMPLES:
            for place, (is_delay, servers, demands) in enumerate(net.stations):
                if is_delay or servers > 1:
                    continue
                for customer_class, population in enumerate(net.populations):
                    if population:
                        staying = net.value("residence", place, customer_class)
                        seen = net.value("arrival_sees", place, customer_class)
                        self.assertEqual(staying, demands[customer_class] * (1 + seen))
                        compared += 1
        self.assertGreater(compared, 25)


class Growth(unittest.TestCase):
    def test_another_customer_never_lowers_the_throughput(self):
        for stations in [[station(QUEUE, 5)],
                         [station(QUEUE, 1), station(QUEUE, 2)],
                         [station(DELAY, 100), station(QUEUE, 7)],
                         [station((0, 3), 10), station((0, 2), 7), station(DELAY, 5)],
                         [station((0, 20), 900), station(QUEUE, 0), station(DELAY, 1000),
                          station((0, 4), 333), station(QUEUE, 77)]]:
            rates = [Net(stations, [customers]).value("throughput", 0) for customers in range(13)]
            self.assertEqual(rates, sorted(rates))
            self.assertEqual(rates[0], 0)
            self.assertGreater(rates[1], 0)
            told = Net(stations, [5]).ask(("curve", 0, 12))[0]
            self.assertEqual(told, as_list(rates))


class RefusedCalls(unittest.TestCase):
    def test_a_refused_call_changes_nothing(self):
        for net in SAMPLES:
            before = net.ask(*SEEN)
            for call in REFUSED:
                told = net.ask(call, *SEEN)
                self.assertLess(told[0][0], 0)
                self.assertEqual(len(told[0]), 1)
                self.assertEqual(told[1:], before)

    def test_a_refused_call_changes_nothing_where_the_network_is_not_proper(self):
        made = [("create", 2, 2), ("set_station", 1, 0, 2), ("set_demand", 0, 0, 3), ("set_population", 0, 2),
                ("set_population", 1, 1)]
        after = [("set_demand", 1, 1, 4), ("norm",), ("summary",), ("get_population", 0), ("get_demand", 0, 0)]
        before = run(*made, *after)[len(made):]
        asked = [("norm",), ("throughput", 0), ("marginal", 0, [1, 0]), ("state_probability", [2, 1, 0, 0]),
                 ("mean_values",), ("mva_throughput", 0), ("arrival_sees", 0, 0), ("curve", 0, 3),
                 ("fewest_customers", 0, 0, 1), ("gain", 1, 1, 5), ("bottleneck",), ("utilization", 0), ("idle", 0)]
        for call in asked:
            self.assertEqual(run(*made, call, *after)[len(made):], [[-33]] + before, call)

    def test_too_large_populations_change_nothing(self):
        net = Net([station(QUEUE, 2, 7), station((0, 2), 5, 3)], [4, 7])
        before = net.ask(*SEEN)
        self.assertEqual(net.ask(("set_population", 0, 5), *SEEN), [[-28]] + before)

    def test_questions_change_nothing(self):
        for net in SAMPLES:
            before = net.ask(*SEEN)
            for question in QUESTIONS:
                told = net.ask(*SEEN, question, *SEEN)
                self.assertEqual(told[:len(SEEN)], before)
                self.assertEqual(told[-len(SEEN):], before, question)


class Interface(unittest.TestCase):
    def test_calls_are_not_changed(self):
        for net in SAMPLES:
            for asked in (SEEN, QUESTIONS, REFUSED[:25], REFUSED[25:]):
                calls = written(net.calls() + asked)
                kept = list(calls)
                answers(calls)
                self.assertEqual(calls, kept)

    def test_the_same_calls_have_the_same_answers(self):
        for net in SAMPLES:
            for asked in (SEEN, QUESTIONS):
                calls = written(net.calls() + asked)
                first = answers(calls)
                kept = list(first)
                second = answers(calls)
                self.assertEqual(first, kept)
                self.assertEqual(second, kept)
                self.assertIsNot(first, second)

    def test_nothing_is_kept_from_one_request_to_the_next(self):
        run(("create", 2, 2), ("set_station", 0, 1, 1), ("set_demand", 0, 0, 3),
            ("set_population", 0, 2))
        self.assertEqual(run(("get_population", 0), ("create", 1, 1), ("get_population", 0),
                             ("get_demand", 0, 0)), [[-11], [0], [0], [0]])

    def test_whole_numbers_in_one_list(self):
        for net in SAMPLES:
            for asked in (SEEN, QUESTIONS, REFUSED[:25]):
                told = answers(written(net.calls() + asked))
                self.assertIs(type(told), list)
                for number in told:
                    self.assertIs(type(number), int)

    def test_only_errors_begin_below_0(self):
        for net in SAMPLES:
            for call, told in zip(SEEN + QUESTIONS, net.ask(*SEEN, *QUESTIONS)):
                if told[0] < 0:
                    self.assertEqual(len(told), 1)
                elif call[0] != "gain":
                    self.assertGreaterEqual(min(told), 0)

    def test_fractions_are_in_lowest_terms(self):
        with_count = ("mean_values", "curve", "gain")
        for net in SAMPLES:
            for call, told in zip(SEEN + QUESTIONS, net.ask(*SEEN, *QUESTIONS)):
                if told[0] >= 0 and (len(told) == 3 or call[0] in with_count):
                    for numerator, denominator in zip(told[1::2], told[2::2]):
                        self.assertEqual(gcd(numerator, denominator), 1)
                        self.assertGreater(denominator, 0)
                if told[0] >= 0 and call[0] in with_count:
                    self.assertEqual(len(told), 1 + 2 * told[0])

    def test_nothing_is_printed(self):
        shown = io.StringIO()
        with contextlib.redirect_stdout(shown), contextlib.redirect_stderr(shown):
            run(*SAMPLES[-1].calls(), *SEEN, *REFUSED[:10])
            run(*SAMPLES[-1].calls(), *QUESTIONS)
        self.assertEqual(shown.getvalue(), "")

    def test_fifty_calls(self):
        told = run(("create", 1, 1), *[("get_population", 0)] * 49)
        self.assertEqual(told, [[0]] * 50)

    def test_fifty_calls_with_every_number(self):
        every = [("create", 2, 1), ("set_station", 0, 0, 1), ("set_demand", 0, 0, 1), ("set_demand", 1, 0, 2),
                 ("set_population", 0, 2), ("get_demand", 1, 0), ("get_population", 0), ("norm",), ("throughput", 0),
                 ("cycle", 0), ("mean_number", 1, 0), ("station_number", 1), ("residence", 1, 0), ("busy", 1, 0),
                 ("utilization", 1), ("marginal", 0, [1]), ("number_probability", 1, 2), ("idle", 1),
                 ("state_probability", [1, 1]), ("mean_values",), ("mva_throughput", 0), ("arrival_sees", 1, 0),
                 ("curve", 0, 3), ("fewest_customers", 0, 2, 5), ("gain", 1, 0, 1), ("bottleneck",), ("summary",)]
        self.assertEqual({NUMBERS[call[0]] for call in every}, set(range(26)))
        wanted = [[0], [0], [0], [0], [0], [2], [2], [0, 7, 1], [0, 3, 7], [0, 14, 3], [0, 10, 7], [0, 10, 7],
                  [0, 10, 3], [0, 6, 7], [0, 6, 7], [0, 2, 7], [0, 4, 7], [0, 1, 7], [0, 2, 7], [2, 4, 7, 10, 7],
                  [0, 3, 7], [0, 2, 3], [4, 0, 1, 1, 3, 3, 7, 7, 15], [2], [1, 5, 21], [1, 6, 7], [2, 1, 2, 1, 1]]
        calls = every + every[-22:] + every[-1:]
        self.assertEqual(len(calls), 50)
        self.assertEqual(run(*calls), wanted + wanted[-22:] + wanted[-1:])

    def test_rows_do_not_shift_the_calls_behind_them(self):
        made = [("create", 1, 1), ("set_demand", 0, 0, 5), ("set_population", 0, 1)]
        for row in ([], [0], [1], [2], [6, 25], [7] * 16, [GREATEST] * 16):
            for call in (("marginal", 0, row), ("marginal", 3, row), ("state_probability", row)):
                told = run(*made, call, ("summary",), call, ("get_demand", 0, 0))
                self.assertEqual([told[4], told[6]], [[1, 1, 1, 1, 1], [5]])

    def test_a_full_request(self):
        asked = [("state_probability", [GREATEST] * 16), ("marginal", GREATEST, [GREATEST] * 16)] * 24
        told = run(("create", 5, 3), *asked, ("summary",))
        self.assertEqual(told, [[0]] + [[-22], [-2]] * 24 + [[5, 3, 0, 1, 1]])

    def test_one_call(self):
        self.assertEqual(answers([0, 5, 3]), [1, 0])
        self.assertEqual(answers([6]), [1, -11])


if __name__ == "__main__":
    unittest.main()
