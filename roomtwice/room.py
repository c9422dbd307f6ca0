"""What one object keeps, the floor points and the things, and what follows from these."""

from roomtwice.plane import carried, cross, is_nowhere, no_three_on_a_line, weighed


class Room:
    """Each floor point and each thing is kept as (u, v, s, t): in the first picture, in the second."""

    def __init__(self):
        self.started = False
        self.floor_points = []
        self.things = []

    def begin(self):
        self.started = True
        self.floor_points = []
        self.things = []

    def first_corners(self):
        """The first four floor points as the first picture shows them."""
        return [(seen[0], seen[1], 1) for seen in self.floor_points[:4]]

    def second_corners(self):
        """The first four floor points as the second picture shows them."""
        return [(seen[2], seen[3], 1) for seen in self.floor_points[:4]]

    def floors_known(self):
        if len(self.floor_points) < 4:
            return False
        return no_three_on_a_line(self.first_corners()) and no_three_on_a_line(self.second_corners())

    def across(self, point):
        """Only where the floors are known."""
        return carried(point, weighed(self.first_corners()), weighed(self.second_corners()))

    def back(self, point):
        """Only where the floors are known."""
        return carried(point, weighed(self.second_corners()), weighed(self.first_corners()))

    def thing_line(self, number):
        """Three times 0 for a thing on the floor: it has no line."""
        seen = self.things[number]
        return cross(self.across((seen[0], seen[1], 1)), (seen[2], seen[3], 1))

    def stand(self):
        """Three times 0 where the lines of things 0 and 1 do not meet in just one point."""
        return cross(self.thing_line(0), self.thing_line(1))

    def is_ready(self):
        if len(self.things) < 2 or not self.floors_known():
            return False
        return not is_nowhere(self.stand())
