"""What is told of a ring, as answers that can be asked whether they are so."""


def is_evened(houses, carried):
    if len(carried) != len(houses):
        return False
    # The bridge ahead of house 0 is the last one, which index -1 finds.
    return all([carried[k] - carried[k - 1] == houses[k] for k in range(len(houses))])


def keep_to_tolls(prices, tolls):
    # Index k - 1 finds the last bridge, from the last house to house 0, for k = 0.
    return all([abs(prices[k] - prices[k - 1]) <= tolls[k - 1] for k in range(len(prices))])


def cost(carried, tolls):
    return sum([toll * abs(amount) for toll, amount in zip(tolls, carried)])


def worth(houses, prices):
    return sum([price * number for price, number in zip(prices, houses)])


class Answer:
    pass


class Even(Answer):
    def __init__(self, carried, prices):
        self.carried = list(carried)
        self.prices = list(prices)

    def evens(self, ring):
        return is_evened(ring.houses(), self.carried)

    def shows(self, ring, tolls):
        houses = ring.houses()
        if len(self.prices) != len(houses) or len(tolls) != len(houses):
            return False
        if not self.evens(ring) or not keep_to_tolls(self.prices, tolls):
            return False
        return worth(houses, self.prices) == cost(self.carried, tolls)


class Uneven(Answer):
    def __init__(self, total):
        self.total = total

    def shows(self, ring, tolls):
        return self.total != 0 and self.total == ring.whole()


class Within(Answer):
    def __init__(self, carried):
        self.carried = list(carried)

    def shows(self, ring, most):
        return is_evened(ring.houses(), self.carried) and all([abs(amount) <= most for amount in self.carried])


class Stretch(Answer):
    def __init__(self, first, many):
        self.first = first
        self.many = many

    def shows(self, ring, most):
        houses = ring.houses()
        count = len(houses)
        if ring.whole() != 0:
            return False
        if not 0 <= self.first < count or not 0 <= self.many < count:
            return False
        # Laid out twice, the houses let a stretch go on around the ring's end.
        twice = houses + houses
        return abs(sum(twice[self.first:self.first + self.many])) > 2 * most
