"""The calls of one request, read from a list of whole numbers and answered in order."""

from closedqueues.changes import arrival_sees, curve, fewest_customers, gain
from closedqueues.meanvalues import mean_values, mva_throughput
from closedqueues.measures import bottleneck, busy, cycle, mean_number, norm
from closedqueues.measures import residence, station_number, throughput, utilization
from closedqueues.model import Network
from closedqueues.probabilities import idle, marginal, number_probability, state_probability
from closedqueues.refusals import Refusal
from closedqueues.settings import create, get_demand, get_population
from closedqueues.settings import set_demand, set_population, set_station, summary

# How many whole numbers stand behind the number of each call, rows not counted.
ARGUMENT_COUNTS = (2, 3, 3, 2, 2, 1, 0, 1, 1, 2, 1, 2, 2, 1, 1, 2, 1, 0, 0, 1, 2, 2, 3, 3, 0, 0)
CALLS_WITH_ROW = (14, 17)


def answers(calls):
    network = Network()
    told = []
    start = 0
    while start < len(calls):
        end = start + call_length(calls, start)
        answer = answer_or_code(network, calls[start:end])
        told.append(len(answer))
        told.extend(answer)
        start = end
    return told


def call_length(calls, start):
    number = calls[start]
    length = 1 + ARGUMENT_COUNTS[number]
    if number in CALLS_WITH_ROW:
        length = length + 1 + calls[start + length]
    return length


def answer_or_code(network, call):
    try:
        return answer_to(network, call)
    except Refusal as refusal:
        return [refusal.code]


def answer_to(network, call):
    number = call[0]
    if number == 0:
        return create(network, call[1], call[2])
    network.check_exists()
    if number <= 5:
        return settings_answer(network, call)
    if number <= 13:
        return measures_answer(network, call)
    if number <= 17:
        return probabilities_answer(network, call)
    if number <= 19:
        return analysis_answer(network, call)
    if number <= 23:
        return changes_answer(network, call)
    if number == 24:
        return bottleneck(network)
    return summary(network)


def settings_answer(network, call):
    number = call[0]
    if number == 1:
        return set_station(network, call[1], call[2], call[3])
    if number == 2:
        return set_demand(network, call[1], call[2], call[3])
    if number == 3:
        return set_population(network, call[1], call[2])
    if number == 4:
        return get_demand(network, call[1], call[2])
    return get_population(network, call[1])


def measures_answer(network, call):
    number = call[0]
    if number == 6:
        return norm(network)
    if number == 7:
        return throughput(network, call[1])
    if number == 8:
        return cycle(network, call[1])
    if number == 9:
        return mean_number(network, call[1], call[2])
    if number == 10:
        return station_number(network, call[1])
    if number == 11:
        return residence(network, call[1], call[2])
    if number == 12:
        return busy(network, call[1], call[2])
    return utilization(network, call[1])


def probabilities_answer(network, call):
    number = call[0]
    if number == 14:
        return marginal(network, call[1], call[3:])
    if number == 15:
        return number_probability(network, call[1], call[2])
    if number == 16:
        return idle(network, call[1])
    return state_probability(network, call[2:])


def analysis_answer(network, call):
    if call[0] == 18:
        return mean_values(network)
    return mva_throughput(network, call[1])


def changes_answer(network, call):
    number = call[0]
    if number == 20:
        return arrival_sees(network, call[1], call[2])
    if number == 21:
        return curve(network, call[1], call[2])
    if number == 22:
        return fewest_customers(network, call[1], call[2], call[3])
    return gain(network, call[1], call[2], call[3])
