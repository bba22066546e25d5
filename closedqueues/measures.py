"""The calls 6 to 13 and 24: they tell how the network works with its populations."""

from closedqueues.productform import all_throughputs, class_mean, class_throughput, network_norm, station_mean
from closedqueues.ratios import divided, is_less, times, total
from closedqueues.refusals import NoResult
from closedqueues.replies import fraction_answer


def norm(network):
    network.check_proper()
    return fraction_answer(network_norm(network.stations, network.populations))


def throughput(network, customer_class):
    network.check_class(customer_class)
    network.check_proper()
    return fraction_answer(class_throughput(network.stations, network.populations, customer_class))


def cycle(network, customer_class):
    network.check_class(customer_class)
    network.check_customers(customer_class)
    network.check_proper()
    rate = class_throughput(network.stations, network.populations, customer_class)
    return fraction_answer(divided((network.populations[customer_class], 1), rate))


def mean_number(network, station, customer_class):
    network.check_station(station)
    network.check_class(customer_class)
    network.check_proper()
    return fraction_answer(class_mean(network.stations, network.populations, station, customer_class))


def station_number(network, station):
    network.check_station(station)
    network.check_proper()
    return fraction_answer(station_mean(network.stations, network.populations, station))


def residence(network, station, customer_class):
    network.check_station(station)
    network.check_class(customer_class)
    network.check_customers(customer_class)
    network.check_proper()
    present = class_mean(network.stations, network.populations, station, customer_class)
    rate = class_throughput(network.stations, network.populations, customer_class)
    return fraction_answer(divided(present, rate))


def busy(network, station, customer_class):
    network.check_station(station)
    network.check_class(customer_class)
    network.check_proper()
    rate = class_throughput(network.stations, network.populations, customer_class)
    return fraction_answer(times(rate, network.stations[station].demands[customer_class]))


def utilization(network, station):
    network.check_station(station)
    network.check_queue(station)
    network.check_proper()
    rates = all_throughputs(network.stations, network.populations)
    return fraction_answer(utilization_of(network.stations[station], rates))


def utilization_of(queue, rates):
    used = total([times(rate, demand) for rate, demand in zip(rates, queue.demands)])
    return divided(used, (queue.servers, 1))


def bottleneck(network):
    queues = [number for number, station in enumerate(network.stations) if station.is_delay == 0]
    if len(queues) == 0:
        raise NoResult()
    network.check_proper()
    rates = all_throughputs(network.stations, network.populations)
    shares = [utilization_of(network.stations[number], rates) for number in queues]
    fullest = 0
    for place, share in enumerate(shares):
        if is_less(shares[fullest], share):
            fullest = place
    return [queues[fullest], shares[fullest][0], shares[fullest][1]]
