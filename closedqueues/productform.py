"""Norms, throughputs, mean numbers and probabilities from the product form.

A station's factors are kept as whole numbers: each is multiplied by the scale
of the station, a common denominator for all numbers within the limits. Sums of
products then need no fractions, and in a quotient of two norms of the same
stations and limits the scales cancel.
"""

from closedqueues.counts import factorial, factorial_product, numbers_within, one_less, power, rest_of, with_customers
from closedqueues.ratios import lowest_terms


def service_product(servers, customers):
    product = 1
    for present in range(1, customers + 1):
        product = product * min(present, servers)
    return product


def demand_product(demands, numbers):
    product = 1
    for demand, customers in zip(demands, numbers):
        product = product * power(demand, customers)
    return product


def factor_scale(station, limits):
    if station.is_delay == 1:
        return factorial_product(limits)
    return service_product(station.servers, sum(limits))


def scaled_factor(station, numbers, scale):
    # Each division is exact: the scale is a multiple of what divides it.
    demanded = demand_product(station.demands, numbers)
    repeats = factorial_product(numbers)
    if station.is_delay == 1:
        return demanded * (scale // repeats)
    customers = sum(numbers)
    orders = factorial(customers) // repeats
    return orders * demanded * (scale // service_product(station.servers, customers))


def factor_table(station, limits):
    """The scaled factors of the station for all numbers within the limits."""
    scale = factor_scale(station, limits)
    table = {}
    for numbers in numbers_within(limits):
        table[numbers] = scaled_factor(station, numbers, scale)
    return table


def splits_within(limits):
    """For all numbers within the limits the ways to cut them into a part and its rest."""
    splits = {}
    for numbers in numbers_within(limits):
        splits[numbers] = [(part, rest_of(numbers, part)) for part in numbers_within(numbers)]
    return splits


def joined(norms, factors, splits):
    """The norms of some stations and one more, whose factors are given."""
    table = {}
    for numbers, pairs in splits.items():
        table[numbers] = sum([factors[part] * norms[rest] for part, rest in pairs])
    return table


def norm_table(stations, limits):
    """The norms of the stations for all numbers within the limits, times all their scales."""
    splits = splits_within(limits)
    norms = {}
    for numbers in splits:
        norms[numbers] = 1 if sum(numbers) == 0 else 0
    for station in stations:
        norms = joined(norms, factor_table(station, limits), splits)
    return norms


def network_norm(stations, populations):
    scale = 1
    for station in stations:
        scale = scale * factor_scale(station, populations)
    return lowest_terms(norm_table(stations, populations)[populations], scale)


def throughput_in(norms, populations, customer_class):
    """The throughput of the class for populations that stand in the table of the norms."""
    if populations[customer_class] == 0:
        return (0, 1)
    return lowest_terms(norms[one_less(populations, customer_class)], norms[populations])


def class_throughput(stations, populations, customer_class):
    return throughput_in(norm_table(stations, populations), populations, customer_class)


def all_throughputs(stations, populations):
    norms = norm_table(stations, populations)
    return [throughput_in(norms, populations, customer_class) for customer_class in range(len(populations))]


def throughput_curve(stations, populations, customer_class):
    """The throughputs of the class for each of its populations up to the one given here."""
    norms = norm_table(stations, populations)
    rates = []
    for customers in range(populations[customer_class] + 1):
        rates.append(throughput_in(norms, with_customers(populations, customer_class, customers), customer_class))
    return rates


def marginal_weights(stations, station, populations):
    """The marginal probabilities of all numbers at the station, before they are divided by their sum."""
    others = stations[:station] + stations[station + 1:]
    norms = norm_table(others, populations)
    weights = {}
    for numbers, factor in factor_table(stations[station], populations).items():
        weights[numbers] = factor * norms[rest_of(populations, numbers)]
    return weights


def class_mean(stations, populations, station, customer_class):
    weights = marginal_weights(stations, station, populations)
    weighted = sum([numbers[customer_class] * weight for numbers, weight in weights.items()])
    return lowest_terms(weighted, sum(weights.values()))


def station_mean(stations, populations, station):
    weights = marginal_weights(stations, station, populations)
    weighted = sum([sum(numbers) * weight for numbers, weight in weights.items()])
    return lowest_terms(weighted, sum(weights.values()))


def marginal_probability(stations, populations, station, numbers):
    weights = marginal_weights(stations, station, populations)
    return lowest_terms(weights.get(tuple(numbers), 0), sum(weights.values()))


def sum_probability(stations, populations, station, customers):
    """How likely this many customers of all classes together are at the station."""
    weights = marginal_weights(stations, station, populations)
    found = sum([weight for numbers, weight in weights.items() if sum(numbers) == customers])
    return lowest_terms(found, sum(weights.values()))


def rows_probability(stations, populations, rows):
    """How likely these numbers at all stations are; they sum to the populations."""
    weight = 1
    for station, numbers in zip(stations, rows):
        weight = weight * scaled_factor(station, numbers, factor_scale(station, populations))
    return lowest_terms(weight, norm_table(stations, populations)[populations])
