"""The calls 0 to 5 and 25: they make a network, change it and tell its settings."""

from closedqueues.counts import with_customers
from closedqueues.limits import check_demand, check_fits, check_population, check_service, check_sizes
from closedqueues.model import Station, is_proper, is_simple


def create(network, station_count, class_count):
    check_sizes(station_count, class_count)
    network.stations = [Station(class_count) for number in range(station_count)]
    network.populations = tuple([0] * class_count)
    return [0]


def set_station(network, station, is_delay, servers):
    network.check_station(station)
    check_service(is_delay, servers)
    changed = network.stations[station]
    changed.is_delay = is_delay
    changed.servers = servers
    return [0]


def set_demand(network, station, customer_class, demand):
    network.check_station(station)
    network.check_class(customer_class)
    check_demand(demand)
    demands = network.stations[station].demands
    old_demand = demands[customer_class]
    demands[customer_class] = demand
    return [old_demand]


def set_population(network, customer_class, population):
    network.check_class(customer_class)
    check_population(population)
    old_population = network.populations[customer_class]
    populations = with_customers(network.populations, customer_class, population)
    check_fits(populations)
    network.populations = populations
    return [old_population]


def get_demand(network, station, customer_class):
    network.check_station(station)
    network.check_class(customer_class)
    return [network.stations[station].demands[customer_class]]


def get_population(network, customer_class):
    network.check_class(customer_class)
    return [network.populations[customer_class]]


def summary(network):
    stations = network.stations
    populations = network.populations
    proper = 1 if is_proper(stations, populations) else 0
    simple = 1 if is_simple(stations) else 0
    return [len(stations), len(populations), sum(populations), proper, simple]
