"""The calls 14 to 17: they tell how likely numbers of customers are."""

from closedqueues.limits import check_numbers, check_sum
from closedqueues.productform import marginal_probability, rows_probability, sum_probability
from closedqueues.refusals import NoResult
from closedqueues.replies import fraction_answer


def marginal(network, station, numbers):
    network.check_station(station)
    check_numbers(numbers, len(network.populations))
    network.check_proper()
    return fraction_answer(marginal_probability(network.stations, network.populations, station, numbers))


def number_probability(network, station, customers):
    network.check_station(station)
    check_sum(customers)
    network.check_proper()
    return fraction_answer(sum_probability(network.stations, network.populations, station, customers))


def idle(network, station):
    return number_probability(network, station, 0)


def state_probability(network, state):
    class_count = len(network.populations)
    check_numbers(state, len(network.stations) * class_count)
    rows = rows_of(state, class_count)
    check_sums(network, rows)
    network.check_proper()
    return fraction_answer(rows_probability(network.stations, network.populations, rows))


def rows_of(state, class_count):
    """The numbers of each station."""
    return [tuple(state[start:start + class_count]) for start in range(0, len(state), class_count)]


def check_sums(network, rows):
    for customer_class, population in enumerate(network.populations):
        if sum([numbers[customer_class] for numbers in rows]) != population:
            raise NoResult()
