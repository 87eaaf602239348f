"""What each night costs, by the cheapest ways from evening to evening."""


def night_ways(left):
    """The ways by one night, as (from, to, cost), where so many rooms are left on each night."""
    ways = []
    for night, rooms in enumerate(left):
        ways.append((night, night + 1, 0))
        if rooms > 0:
            ways.append((night + 1, night, 0))
    return ways


def offer_ways(offers, chosen):
    """The ways by the offers, as (from, to, cost), where the chosen ones are told by their numbers."""
    ways = []
    for number, offer in enumerate(offers):
        if offer is None:
            continue
        if number in chosen:
            ways.append((offer.end, offer.start, offer.price))
        else:
            ways.append((offer.start, offer.end, -offer.price))
    return ways


def evening_costs(ways, evenings):
    """What the cheapest way from evening 0 to each evening costs."""
    # On by one night costs nothing, so every evening is reached for 0 at first.
    costs = [0] * evenings
    # No way round gets ever cheaper, because the offers chosen earn the most. So a cheapest way comes to no evening
    # twice, and after as many rounds as there are evenings all cheapest ways are found.
    for turn in range(evenings):
        before = list(costs)
        for way in ways:
            costs[way[1]] = min(costs[way[1]], costs[way[0]] + way[2])
        if costs == before:
            break
    return costs


def night_prices(offers, choice):
    """The price of each night, by the best choice of these offers."""
    nights = len(choice.free)
    costs = evening_costs(night_ways(choice.free) + offer_ways(offers, choice.numbers), nights + 1)
    return [costs[night] - costs[night + 1] for night in range(nights)]
