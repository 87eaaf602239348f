"""Which offers are chosen."""

from roomdesk.stays import fits, with_stay


class Choice:
    """Offers that can be in together: their numbers, what they earn, the rooms they leave free."""

    def __init__(self, numbers, earned, free):
        self.numbers = numbers
        self.earned = earned
        self.free = free


def widened(choice, number, offer):
    """The choice with one offer more."""
    return Choice(choice.numbers + [number], choice.earned + offer.price, with_stay(choice.free, offer))


def with_and_without(choices, number, offer):
    """Each choice with the offer, if it can be in, and without it."""
    both = []
    for choice in choices:
        if fits(choice.free, offer):
            both.append(widened(choice, number, offer))
        both.append(choice)
    return both


def all_choices(offers, free):
    """All that can be in together; of two, first the one that has the first number in which they differ."""
    choices = [Choice([], 0, free)]
    for number, offer in enumerate(offers):
        if offer is not None:
            choices = with_and_without(choices, number, offer)
    return choices


def best_choice(offers, free):
    """The choice that earns the most. None among the offers is one that's withdrawn."""
    choices = all_choices(offers, free)
    best = choices[0]
    for choice in choices:
        # Only more will do: of several that earn as much the order of choices puts the right one first.
        if choice.earned > best.earned:
            best = choice
    return best
