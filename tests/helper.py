"""Writes calls as the interface tells, and works out the document's words by plain counting."""

from fractions import Fraction
from itertools import product
from math import factorial

from closedqueues.networks import answers

NUMBERS = {
    "create": 0, "set_station": 1, "set_demand": 2, "set_population": 3, "get_demand": 4,
    "get_population": 5, "norm": 6, "throughput": 7, "cycle": 8, "mean_number": 9,
    "station_number": 10, "residence": 11, "busy": 12, "utilization": 13, "marginal": 14,
    "number_probability": 15, "idle": 16, "state_probability": 17, "mean_values": 18,
    "mva_throughput": 19, "arrival_sees": 20, "curve": 21, "fewest_customers": 22, "gain": 23,
    "bottleneck": 24, "summary": 25,
}
GREATEST = 4294967295


def written(calls):
    """Calls such as ("throughput", 0) as one list of whole numbers; a row is a list among them."""
    flat = []
    for call in calls:
        flat.append(NUMBERS[call[0]])
        for argument in call[1:]:
            if isinstance(argument, list):
                flat.append(len(argument))
                flat.extend(argument)
            else:
                flat.append(argument)
    return flat


def split(told):
    """The answers of a list, each as a list of its own."""
    parts = []
    start = 0
    while start < len(told):
        end = start + 1 + told[start]
        if end > len(told):
            raise AssertionError("an answer is shorter than its count tells")
        parts.append(told[start + 1:end])
        start = end
    return parts


def run(*calls):
    return split(answers(written(calls)))


def last(*calls):
    return run(*calls)[-1]


class Net:
    """A network as plain values: stations are (is_delay, servers, demands)."""

    def __init__(self, stations, populations):
        self.stations = stations
        self.populations = tuple(populations)
        # What takes long to count is counted once.
        self.weighed = None
        self.total = None
        self.nearby = {}

    def calls(self):
        """The calls that make this network."""
        made = [("create", len(self.stations), len(self.populations))]
        for number, (is_delay, servers, demands) in enumerate(self.stations):
            if (is_delay, servers) != (0, 1):
                made.append(("set_station", number, is_delay, servers))
            for customer_class, demand in enumerate(demands):
                if demand:
                    made.append(("set_demand", number, customer_class, demand))
        for customer_class, population in enumerate(self.populations):
            if population:
                made.append(("set_population", customer_class, population))
        return made

    def ask(self, *questions):
        """The answers to the questions, in as many requests as a limit of 50 calls wants."""
        told = []
        made = self.calls()
        room = 50 - len(made)
        for start in range(0, len(questions), room):
            told.extend(run(*made, *questions[start:start + room])[len(made):])
        return told

    def value(self, *question):
        return as_fraction(self.ask(question)[0])

    def states(self):
        """All ways to distribute the customers: for each station its numbers."""
        ways = [list(spreads(population, len(self.stations))) for population in self.populations]
        for choice in product(*ways):
            yield list(zip(*choice))

    def weight(self, state):
        weight = Fraction(1)
        for station, numbers in zip(self.stations, state):
            weight *= factor(station, numbers)
        return weight

    def weights(self):
        """All states, each with its weight."""
        if self.weighed is None:
            self.weighed = [(state, self.weight(state)) for state in self.states()]
        return self.weighed

    def norm(self):
        if self.total is None:
            self.total = sum((weight for state, weight in self.weights()), Fraction(0))
        return self.total

    def throughput(self, customer_class):
        if self.populations[customer_class] == 0:
            return Fraction(0)
        return self.less(customer_class).norm() / self.norm()

    def mean_number(self, station, customer_class):
        return self.expected(lambda state: state[station][customer_class])

    def expected(self, value_of):
        """The sum of a value of each state, each times the probability of the state."""
        return sum(weight * value_of(state) for state, weight in self.weights()) / self.norm()

    def chances(self, key_of):
        """For each key that a state has the sum of the probabilities of these states."""
        norm = self.norm()
        found = {}
        for state, weight in self.weights():
            found[key_of(state)] = found.get(key_of(state), 0) + weight / norm
        return found

    def utilization(self, station):
        demands = self.stations[station][2]
        busy = sum(demand * self.throughput(customer_class)
                   for customer_class, demand in enumerate(demands))
        return Fraction(busy) / self.stations[station][1]

    def is_simple(self):
        return all(is_delay or servers == 1 for is_delay, servers, demands in self.stations)

    def with_population(self, customer_class, population):
        populations = list(self.populations)
        populations[customer_class] = population
        if tuple(populations) not in self.nearby:
            self.nearby[tuple(populations)] = Net(self.stations, populations)
        return self.nearby[tuple(populations)]

    def less(self, customer_class):
        return self.with_population(customer_class, self.populations[customer_class] - 1)

    def with_demand(self, place, customer_class, demand):
        stations = list(self.stations)
        is_delay, servers, demands = stations[place]
        demands = list(demands)
        demands[customer_class] = demand
        stations[place] = (is_delay, servers, tuple(demands))
        return Net(stations, self.populations)

    def classes(self):
        return range(len(self.populations))

    def places(self):
        return range(len(self.stations))

    def queues(self):
        return [place for place in self.places() if not self.stations[place][0]]

    def all_numbers(self):
        return list(product(*[range(population + 1) for population in self.populations]))


def spreads(customers, places):
    if places == 1:
        yield (customers,)
        return
    for first in range(customers + 1):
        for others in spreads(customers - first, places - 1):
            yield (first,) + others


def factor(station, numbers):
    is_delay, servers, demands = station
    value = Fraction(1)
    for demand, customers in zip(demands, numbers):
        value *= Fraction(demand ** customers, factorial(customers))
    if not is_delay:
        for present in range(1, sum(numbers) + 1):
            value *= Fraction(present, min(present, servers))
    return value


def as_fraction(answer):
    if len(answer) != 3 or answer[0] != 0:
        raise AssertionError(f"not a fraction: {answer}")
    return Fraction(answer[1], answer[2])


def as_answer(value):
    value = Fraction(value)
    return [0, value.numerator, value.denominator]


def as_list(values):
    """A count and the fractions, as mean_values, curve and gain answer them."""
    told = [len(values)]
    for value in values:
        told.extend(as_answer(value)[1:])
    return told


QUEUE = (0, 1)
DELAY = (1, 1)


def station(kind, *demands):
    return (kind[0], kind[1], demands)


SAMPLES = [
    Net([station(QUEUE, 5)], [0]),
    Net([station(QUEUE, 5)], [1]),
    Net([station(QUEUE, 1), station(QUEUE, 2)], [2]),
    Net([station(QUEUE, 1), station(QUEUE, 2)], [12]),
    Net([station(QUEUE, 3), station((0, 2), 7)], [5]),
    Net([station((0, 3), 4), station(DELAY, 9)], [7]),
    Net([station((0, 20), 6), station(DELAY, 6)], [4]),
    Net([station((0, 2), 1000), station((0, 3), 999), station(DELAY, 998)], [12]),
    Net([station(QUEUE, 0), station(QUEUE, 2), station(DELAY, 0)], [3]),
    Net([station(QUEUE, 1, 2)], [1, 1]),
    Net([station((0, 2), 3, 0), station(QUEUE, 0, 4), station(DELAY, 5, 6)], [3, 2]),
    Net([station(QUEUE, 3, 0), station((0, 4), 2, 0)], [4, 0]),
    Net([station(QUEUE, 2, 7), station((0, 2), 5, 3)], [4, 7]),
    Net([station((0, 3), 2, 7), station(DELAY, 5, 3)], [3, 9]),
    Net([station(DELAY, 2, 3, 5)], [1, 2, 3]),
    Net([station(QUEUE, 2, 3, 5), station((0, 2), 7, 1, 4)], [1, 3, 4]),
    Net([station((0, 2), 2, 3, 0), station(DELAY, 10, 0, 6), station(QUEUE, 1, 8, 9)], [2, 0, 3]),
    Net([station(QUEUE, 4), station(DELAY, 30), station((0, 2), 9), station((0, 5), 17),
         station(QUEUE, 2)], [6]),
    Net([station(QUEUE, 1, 5, 2), station(DELAY, 9, 0, 4), station((0, 2), 3, 3, 0),
         station(QUEUE, 0, 2, 6), station((0, 6), 8, 1, 7)], [2, 1, 2]),
    Net([station(QUEUE, 3, 5), station(DELAY, 10, 4), station(QUEUE, 2, 0)], [3, 2]),
    Net([station(DELAY, 9, 0, 4), station(QUEUE, 1, 5, 2), station(QUEUE, 3, 3, 0), station(DELAY, 8, 1, 7),
         station(QUEUE, 0, 2, 6)], [1, 2, 1]),
    Net([station(QUEUE, 6, 0, 1), station(QUEUE, 5, 0, 7), station(DELAY, 2, 0, 0)], [2, 0, 5]),
    Net([station(DELAY, 40, 900), station(QUEUE, 3, 1000)], [12, 1]),
    Net([station(QUEUE, 4, 0, 9), station((0, 2), 1, 0, 1)], [0, 0, 0]),
]

# Class 1 has a customer, but no demand.
IMPROPER = [("create", 2, 2), ("set_demand", 0, 0, 3), ("set_population", 0, 2),
            ("set_population", 1, 1)]
