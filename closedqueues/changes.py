"""The calls 20 to 23: they tell how the network would work with other populations or demands."""

from closedqueues.counts import one_less, with_customers
from closedqueues.limits import check_demand, check_fits, check_goal, check_population, most_fitting
from closedqueues.model import require_proper, with_demand
from closedqueues.productform import all_throughputs, station_mean, throughput_curve
from closedqueues.ratios import is_less, minus
from closedqueues.refusals import NoResult
from closedqueues.replies import fraction_answer, fractions_answer


def arrival_sees(network, station, customer_class):
    network.check_station(station)
    network.check_class(customer_class)
    network.check_customers(customer_class)
    network.check_proper()
    others = one_less(network.populations, customer_class)
    return fraction_answer(station_mean(network.stations, others, station))


def curve(network, customer_class, most):
    network.check_class(customer_class)
    check_population(most)
    populations = with_customers(network.populations, customer_class, most)
    check_fits(populations)
    require_proper(network.stations, with_customers(populations, customer_class, max(1, most)))
    return fractions_answer(throughput_curve(network.stations, populations, customer_class))


def fewest_customers(network, customer_class, num, den):
    network.check_class(customer_class)
    check_goal(num, den)
    require_proper(network.stations, with_customers(network.populations, customer_class, 1))
    most = most_fitting(network.populations, customer_class)
    populations = with_customers(network.populations, customer_class, most)
    for customers, rate in enumerate(throughput_curve(network.stations, populations, customer_class)):
        if not is_less(rate, (num, den)):
            return [customers]
    raise NoResult()


def gain(network, station, customer_class, demand):
    network.check_station(station)
    network.check_class(customer_class)
    check_demand(demand)
    network.check_proper()
    changed = with_demand(network.stations, station, customer_class, demand)
    require_proper(changed, network.populations)
    present = all_throughputs(network.stations, network.populations)
    possible = all_throughputs(changed, network.populations)
    return fractions_answer([minus(after, before) for after, before in zip(possible, present)])
