"""Where the leaves and sides of a book lie."""

from looseleavesdesk.signs import CLOSING, OPENING


class Lying:
    """The sides in order; of each side its place among these, from 0; of each leaf its gathering, from 0, and its
    partner, 0 if it is alone."""

    def __init__(self, gatherings):
        self.sides_in_order = list_sides(gatherings)
        self.side_places = number_sides(self.sides_in_order)
        self.gathering_numbers = number_gatherings(gatherings)
        self.partners = find_partners(gatherings)

    def leaf_place(self, leaf):
        """How many leaves lie before this one."""
        return self.side_places[2 * leaf] // 2

    def is_front(self, side):
        """Whether the side is the front of its leaf."""
        return self.side_places[side] % 2 == 0


def list_sides(gatherings):
    """The front and the back of each leaf, through all gatherings."""
    sides = []
    for gathering in gatherings:
        for leaf in gathering:
            sides.append(2 * leaf.number + leaf.front)
            sides.append(2 * leaf.number + 1 - leaf.front)
    return sides


def number_sides(sides):
    """Of each side how many there are before it."""
    places = {}
    for place, side in enumerate(sides):
        places[side] = place
    return places


def number_gatherings(gatherings):
    """Of each leaf how many gatherings there are before its own."""
    numbers = {}
    for number, gathering in enumerate(gatherings):
        for leaf in gathering:
            numbers[leaf.number] = number
    return numbers


def find_partners(gatherings):
    """Of each leaf its partner, 0 if it is alone."""
    partners = {}
    # Every gathering is paired within itself, so none waits when the next one begins.
    waiting = []
    for gathering in gatherings:
        for leaf in gathering:
            partners[leaf.number] = 0
            if leaf.sign == OPENING:
                waiting.append(leaf.number)
            if leaf.sign == CLOSING:
                partner = waiting.pop()
                partners[leaf.number] = partner
                partners[partner] = leaf.number
    return partners
