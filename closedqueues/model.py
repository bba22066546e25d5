"""The network on which the calls of one request work."""

from closedqueues.refusals import NoCustomers, NoInstance, NoResult, NoSuchStationOrClass


class Station:
    """A queue with its servers, or a delay, and its demand for each class."""

    def __init__(self, class_count):
        self.is_delay = 0
        self.servers = 1
        self.demands = [0] * class_count


class Network:
    """The stations and populations; without stations there is no instance yet."""

    def __init__(self):
        self.stations = []
        self.populations = ()

    def check_exists(self):
        if len(self.stations) == 0:
            raise NoInstance()

    def check_station(self, station):
        if station >= len(self.stations):
            raise NoSuchStationOrClass()

    def check_class(self, customer_class):
        if customer_class >= len(self.populations):
            raise NoSuchStationOrClass()

    def check_customers(self, customer_class):
        if self.populations[customer_class] == 0:
            raise NoCustomers()

    def check_queue(self, station):
        if self.stations[station].is_delay == 1:
            raise NoResult()

    def check_proper(self):
        require_proper(self.stations, self.populations)

    def check_simple(self):
        if not is_simple(self.stations):
            raise NoResult()


def is_proper(stations, populations):
    """Whether every class with customers has a demand at some station."""
    for customer_class, population in enumerate(populations):
        if population > 0 and not is_demanded(stations, customer_class):
            return False
    return True


def is_demanded(stations, customer_class):
    for station in stations:
        if station.demands[customer_class] > 0:
            return True
    return False


def require_proper(stations, populations):
    if not is_proper(stations, populations):
        raise NoResult()


def is_simple(stations):
    """Whether all queues have one server."""
    for station in stations:
        if station.is_delay == 0 and station.servers > 1:
            return False
    return True


def with_demand(stations, station, customer_class, demand):
    """The stations with another demand at one of them; the given ones stay as they are."""
    present = stations[station]
    changed = Station(len(present.demands))
    changed.is_delay = present.is_delay
    changed.servers = present.servers
    changed.demands = list(present.demands)
    changed.demands[customer_class] = demand
    return stations[:station] + [changed] + stations[station + 1:]
