"""The calls 6 to 12: they tell how the network works with its populations."""

from closedqueues.productform import class_mean, class_throughput, network_norm, station_mean
from closedqueues.ratios import divided, times


def fraction_answer(ratio):
    return [0, ratio[0], ratio[1]]


def norm(network):
    network.check_proper()
    return fraction_answer(network_norm(network.stations, network.populations))


def throughput(network, customer_class):
    network.check_class(customer_class)
    network.check_proper()
    return fraction_answer(class_throughput(network.stations, network.populations, customer_class))


def cycle(network, customer_class):
    network.check_class(customer_class)
    network.check_customers(customer_class)
    network.check_proper()
    rate = class_throughput(network.stations, network.populations, customer_class)
    return fraction_answer(divided((network.populations[customer_class], 1), rate))


def mean_number(network, station, customer_class):
    network.check_station(station)
    network.check_class(customer_class)
    network.check_proper()
    return fraction_answer(class_mean(network.stations, network.populations, station, customer_class))


def station_number(network, station):
    network.check_station(station)
    network.check_proper()
    return fraction_answer(station_mean(network.stations, network.populations, station))


def residence(network, station, customer_class):
    network.check_station(station)
    network.check_class(customer_class)
    network.check_customers(customer_class)
    network.check_proper()
    present = class_mean(network.stations, network.populations, station, customer_class)
    rate = class_throughput(network.stations, network.populations, customer_class)
    return fraction_answer(divided(present, rate))


def busy(network, station, customer_class):
    network.check_station(station)
    network.check_class(customer_class)
    network.check_proper()
    rate = class_throughput(network.stations, network.populations, customer_class)
    return fraction_answer(times(rate, network.stations[station].demands[customer_class]))
