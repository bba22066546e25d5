"""The network on which the calls of one request work."""

from closedqueues.refusals import NoCustomers, NoInstance, NoResult, NoSuchStationOrClass


class Station:
    """A queue with its servers, or a delay, and its demand for each class."""

    def __init__(self, class_count):
        self.is_delay = 0
        self.servers = 1
        self.demands = [0] * class_count


class Network:
    """The stations and populations; without stations there is no instance yet."""

    def __init__(self):
        self.stations = []
        self.populations = []

    def check_exists(self):
        if len(self.stations) == 0:
            raise NoInstance()

    def check_station(self, station):
        if station >= len(self.stations):
            raise NoSuchStationOrClass()

    def check_class(self, customer_class):
        if customer_class >= len(self.populations):
            raise NoSuchStationOrClass()

    def check_customers(self, customer_class):
        if self.populations[customer_class] == 0:
            raise NoCustomers()

    def check_proper(self):
        if not is_proper(self.stations, self.populations):
            raise NoResult()


def is_proper(stations, populations):
    """Whether every class with customers has a demand at some station."""
    for customer_class, population in enumerate(populations):
        if population > 0 and not is_demanded(stations, customer_class):
            return False
    return True


def is_demanded(stations, customer_class):
    for station in stations:
        if station.demands[customer_class] > 0:
            return True
    return False
