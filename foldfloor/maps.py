"""Maps: polygons with pairings that fit, and some closed sides."""

from foldfloor.copies import part_in
from foldfloor.errors import BadNumber
from foldfloor.orders import LETTERS, check_word, is_letter
from foldfloor.polygons import all_sides
from foldfloor.rounds import fitting


class Map:
    """A polygon with a pairing that fits, and some closed sides."""

    def __init__(self, polygon, pairs, closed):
        self.gluing = fitting(polygon, pairs)
        self.polygon = polygon
        self.pairs = pairs
        sides = all_sides(self.gluing.tiles)
        shut = {}
        for side in closed:
            if side not in sides:
                raise BadNumber("a closed side is a side of a tile of the polygon")
            shut[side] = True
            shut[self.other_side(side)] = True
        self.closed = tuple([side for side in sides if side in shut])

    def closed_sides(self):
        """The list of all closed sides of the polygon's tiles."""
        return list(self.closed)

    def is_open(self, tile, letter):
        """Whether the side of a tile of the floor is open."""
        return self.side_at(tile, letter) not in self.closed

    def rooms(self):
        """The list of the rooms, each the list of its tiles."""
        rooms = []
        met = {}
        for tile in self.gluing.tiles:
            if tile not in met:
                reached = self.tiles_from(tile)
                rooms.append([there for there in self.gluing.tiles if there in reached])
                for there in reached:
                    met[there] = True
        return rooms

    def room_of(self, tile):
        """The index of the room of the place of a tile of the floor."""
        check_word(tile)
        place = self.place_at(tile)
        return [k for k, room in enumerate(self.rooms()) if place in room][0]

    def with_closed(self, tile, letter):
        """A map in which the side of the place of a tile of the floor is closed, too."""
        return Map(self.polygon, self.pairs, self.closed_sides() + [self.side_at(tile, letter)])

    def with_open(self, tile, letter):
        """A map in which the side of the place of a tile of the floor is open, too."""
        side = self.side_at(tile, letter)
        opened = (side, self.other_side(side))
        return Map(self.polygon, self.pairs, [kept for kept in self.closed if kept not in opened])

    def place_at(self, tile):
        """The place of a tile of the floor."""
        _, place = part_in(self.gluing, tile)
        return place

    def side_at(self, tile, letter):
        """The side of the place of a tile of the floor; raises what is wrong with the two."""
        check_word(tile)
        if not is_letter(letter):
            raise BadNumber("a letter is 0, 1 or 2")
        return self.place_at(tile), letter

    def other_side(self, side):
        """The side on the other side of a side."""
        tile, letter = side
        return self.gluing.beyond(tile, letter), letter

    def tiles_from(self, tile):
        """The tiles to which the walk leads from a tile over open sides alone, each a key."""
        reached = {tile: True}
        queue = [tile]
        while queue != []:
            here = queue.pop()
            for letter in LETTERS:
                there = self.gluing.beyond(here, letter)
                if there not in reached and (here, letter) not in self.closed:
                    reached[there] = True
                    queue.append(there)
        return reached

    def __eq__(self, other):
        return (isinstance(other, Map) and self.polygon == other.polygon
                and self.pairs == other.pairs and self.closed == other.closed)

    def __len__(self):
        return len(self.closed)
