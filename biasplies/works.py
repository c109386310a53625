"""What one line of calls keeps: the drum, the rolls and the plies."""

from biasplies.slant import covered, pieces_round, taken
from biasplies.turns import meeting_turns, nearness, nearness_by_turn, turned


class Roll:
    """A roll of fabric, and how much of it is left."""

    def __init__(self, width, length):
        self.width = width
        self.length = length
        self.left = length


class Ply:
    """A ply that's cut; its turn is None while it isn't laid."""

    def __init__(self, source, width, starts):
        self.source = source
        self.width = width
        self.starts = starts
        self.turn = None

    def is_laid(self):
        return self.turn is not None

    def places(self, girth):
        return turned(self.starts, self.turn, girth)


class Works:
    """The object that a line's calls are made on."""

    def __init__(self):
        self.begun = False
        self.a = 0
        self.c = 0
        self.girth = 0
        self.nearest = 0
        self.shortest = 0
        self.rolls = []
        self.plies = []

    def has_roll(self, number):
        return number < len(self.rolls)

    def has_ply(self, number):
        return number < len(self.plies)

    def laid_numbers(self):
        """The plies that are laid, rising."""
        return [number for number, ply in enumerate(self.plies) if ply.is_laid()]

    def laid_count(self):
        return len(self.laid_numbers())

    def cover_of(self, fabric_width):
        """How much of the drum a piece of fabric so wide covers."""
        return covered(fabric_width, self.a, self.c)

    def pieces_of(self, fabric_width):
        """How much of the drum each piece of a ply covers; an empty list if there's no such ply."""
        return pieces_round(self.cover_of(fabric_width), self.girth, self.shortest)

    def taken_by(self, pieces, width):
        """How much of a roll's length these pieces of a ply so wide take together."""
        return len(pieces) * taken(width, self.a, self.c)

    def meets_of_others(self, number):
        """The turns with which this ply meets a splice of another that's laid."""
        places = []
        for other, ply in enumerate(self.plies):
            if other != number and ply.is_laid():
                places.extend(ply.places(self.girth))
        return meeting_turns(self.plies[number].starts, places, self.girth)

    def nearness_to_others(self, number, turn):
        return nearness(turn, self.meets_of_others(number), self.girth)

    def nearness_by_turns(self, number):
        return nearness_by_turn(self.meets_of_others(number), self.girth)

    def least_turn(self, number):
        """The least turn with which the ply may be laid, or None."""
        for turn, near in enumerate(self.nearness_by_turns(number)):
            if near >= self.nearest:
                return turn
        return None
