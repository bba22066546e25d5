"""The ranges of the arguments, and the limit of all populations together."""

from closedqueues.counts import with_customers
from closedqueues.refusals import OutOfRange, PopulationsTooLarge

MOST_STATIONS = 5
MOST_CLASSES = 3
MOST_SERVERS = 20
MOST_DEMAND = 1000
MOST_POPULATION = 12
MOST_CUSTOMERS = 100
MOST_TERM = 1000000
MOST_PRODUCT = 40


def check_range(value, least, most):
    if value < least or value > most:
        raise OutOfRange()


def check_sizes(station_count, class_count):
    check_range(station_count, 1, MOST_STATIONS)
    check_range(class_count, 1, MOST_CLASSES)


def check_service(is_delay, servers):
    check_range(is_delay, 0, 1)
    check_range(servers, 1, 1 if is_delay == 1 else MOST_SERVERS)


def check_demand(demand):
    check_range(demand, 0, MOST_DEMAND)


def check_population(population):
    check_range(population, 0, MOST_POPULATION)


def check_numbers(numbers, length):
    if len(numbers) != length:
        raise OutOfRange()
    for customers in numbers:
        check_population(customers)


def check_sum(customers):
    check_range(customers, 0, MOST_CUSTOMERS)


def check_goal(num, den):
    check_range(num, 0, MOST_TERM)
    check_range(den, 1, MOST_TERM)


def fits(populations):
    product = 1
    for population in populations:
        product = product * (population + 1)
    return product <= MOST_PRODUCT


def check_fits(populations):
    if not fits(populations):
        raise PopulationsTooLarge()


def most_fitting(populations, customer_class):
    """The greatest population that the class may have beside the other populations."""
    most = 0
    while most < MOST_POPULATION and fits(with_customers(populations, customer_class, most + 1)):
        most = most + 1
    return most
