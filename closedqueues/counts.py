"""Numbers of customers, a tuple with one for each class, and products over them."""


def numbers_within(limits):
    """All numbers of which none is greater than its limit."""
    found = [()]
    for limit in limits:
        longer = []
        for numbers in found:
            for customers in range(limit + 1):
                longer.append(numbers + (customers,))
        found = longer
    return found


def rest_of(numbers, part):
    return tuple([whole - taken for whole, taken in zip(numbers, part)])


def with_customers(numbers, customer_class, customers):
    """The numbers with this many customers of the class."""
    changed = list(numbers)
    changed[customer_class] = customers
    return tuple(changed)


def one_less(numbers, customer_class):
    return with_customers(numbers, customer_class, numbers[customer_class] - 1)


def power(number, exponent):
    """The product of this many times the number: 1 for none, of the number 0 too."""
    product = 1
    for turn in range(exponent):
        product = product * number
    return product


def factorial(number):
    product = 1
    for factor in range(2, number + 1):
        product = product * factor
    return product


def factorial_product(numbers):
    product = 1
    for customers in numbers:
        product = product * factorial(customers)
    return product
