"""How fractions stand in an answer."""


def fraction_answer(ratio):
    return [0, ratio[0], ratio[1]]


def fractions_answer(ratios):
    """How many fractions there are, and then each of them."""
    answer = [len(ratios)]
    for ratio in ratios:
        answer.append(ratio[0])
        answer.append(ratio[1])
    return answer
