"""The calls 0 to 5: they make a network, change it and tell its settings."""

from closedqueues.model import Station
from closedqueues.refusals import OutOfRange, PopulationsTooLarge

MOST_STATIONS = 5
MOST_CLASSES = 3
MOST_SERVERS = 20
MOST_DEMAND = 1000
MOST_POPULATION = 12
MOST_PRODUCT = 40


def check_range(value, least, most):
    if value < least or value > most:
        raise OutOfRange()


def check_product(populations):
    product = 1
    for population in populations:
        product = product * (population + 1)
    if product > MOST_PRODUCT:
        raise PopulationsTooLarge()


def create(network, station_count, class_count):
    check_range(station_count, 1, MOST_STATIONS)
    check_range(class_count, 1, MOST_CLASSES)
    network.stations = [Station(class_count) for number in range(station_count)]
    network.populations = [0] * class_count
    return [0]


def set_station(network, station, is_delay, servers):
    network.check_station(station)
    check_range(is_delay, 0, 1)
    check_range(servers, 1, 1 if is_delay == 1 else MOST_SERVERS)
    changed = network.stations[station]
    changed.is_delay = is_delay
    changed.servers = servers
    return [0]


def set_demand(network, station, customer_class, demand):
    network.check_station(station)
    network.check_class(customer_class)
    check_range(demand, 0, MOST_DEMAND)
    demands = network.stations[station].demands
    old_demand = demands[customer_class]
    demands[customer_class] = demand
    return [old_demand]


def set_population(network, customer_class, population):
    network.check_class(customer_class)
    check_range(population, 0, MOST_POPULATION)
    populations = list(network.populations)
    old_population = populations[customer_class]
    populations[customer_class] = population
    check_product(populations)
    network.populations = populations
    return [old_population]


def get_demand(network, station, customer_class):
    network.check_station(station)
    network.check_class(customer_class)
    return [network.stations[station].demands[customer_class]]


def get_population(network, customer_class):
    network.check_class(customer_class)
    return [network.populations[customer_class]]
