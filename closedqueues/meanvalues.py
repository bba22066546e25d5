"""The calls 18 and 19: mean value analysis, from fewer customers to more."""

from closedqueues.counts import numbers_within, one_less
from closedqueues.ratios import divided, multiplied, plus, times, total
from closedqueues.replies import fraction_answer, fractions_answer


def mean_values(network):
    network.check_simple()
    network.check_proper()
    table = means_table(network.stations, network.populations)
    return fractions_answer(table[network.populations])


def mva_throughput(network, customer_class):
    network.check_class(customer_class)
    network.check_simple()
    network.check_proper()
    if network.populations[customer_class] == 0:
        return fraction_answer((0, 1))
    table = means_table(network.stations, network.populations)
    stays = stays_at(network.stations, network.populations, customer_class, table)
    return fraction_answer(rate_of(network.populations[customer_class], stays))


def means_table(stations, populations):
    """For all numbers within the populations the mean number of customers at each station."""
    table = {}
    # One customer less always comes earlier in this order.
    for numbers in numbers_within(populations):
        table[numbers] = means_from(stations, numbers, table)
    return table


def means_from(stations, numbers, table):
    means = [(0, 1) for station in stations]
    for customer_class, customers in enumerate(numbers):
        if customers > 0:
            stays = stays_at(stations, numbers, customer_class, table)
            rate = rate_of(customers, stays)
            means = [plus(mean, multiplied(rate, stay)) for mean, stay in zip(means, stays)]
    return means


def stays_at(stations, numbers, customer_class, table):
    """How long a customer of the class stays at each station, who meets there the others."""
    met = table[one_less(numbers, customer_class)]
    return [stay_at(station, customer_class, mean) for station, mean in zip(stations, met)]


def stay_at(station, customer_class, mean):
    demand = station.demands[customer_class]
    if station.is_delay == 1:
        return (demand, 1)
    return times(plus((1, 1), mean), demand)


def rate_of(customers, stays):
    return divided((customers, 1), total(stays))
