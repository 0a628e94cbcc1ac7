"""The net: packets under way."""

from heldafar.errors import NoPacket, TooMany
from heldafar.pictures import is_number

MOST_PACKETS = 20000


class Net:
    """The packets under way, in the order in which they were put."""

    def __init__(self):
        self.flying = []

    def look_at_place(self, place):
        """Refuses a place that isn't there."""
        if not is_number(place) or not 0 <= place < len(self.flying):
            raise NoPacket("no packet is at this place")

    def put(self, packets):
        """Puts the packets behind the others, or none of them."""
        if len(self.flying) + len(packets) > MOST_PACKETS:
            raise TooMany("too many packets would be under way")
        self.flying.extend(packets)

    def under_way(self):
        """A list of the packets under way."""
        return list(self.flying)

    def come(self, place):
        """Takes the packet at that place out and tells it."""
        self.look_at_place(place)
        return self.flying.pop(place)

    def double(self, place):
        """Puts the packet at that place once more behind the others."""
        self.look_at_place(place)
        self.put([self.flying[place]])

    def lose(self, place):
        """Takes the packet at that place out."""
        self.look_at_place(place)
        del self.flying[place]

    def copied(self):
        """The same once more, which goes its own way."""
        other = Net()
        other.put(self.flying)
        return other
