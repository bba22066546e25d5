"""Closed queueing networks with exact fractions; the calls are in closedqueues.networks."""
