"""What one object keeps, the floor points and the things, and what follows from these."""

from roomtwice.plane import carried, cross, dot, is_nowhere, no_three_on_a_line, ratio, weighed


def in_first(seen):
    """The point of the first picture of what is seen at u, v and at s, t."""
    return (seen[0], seen[1], 1)


def in_second(seen):
    """The point of the second picture of what is seen at u, v and at s, t."""
    return (seen[2], seen[3], 1)


class Room:
    """Each floor point and each thing is kept as it is seen, (u, v, s, t): in the first picture, in the second."""

    def __init__(self):
        self.started = False
        self.floor_points = []
        self.things = []

    def begin(self):
        self.started = True
        self.floor_points = []
        self.things = []

    def first_corners(self):
        """The first four floor points as the first picture shows them."""
        return [in_first(seen) for seen in self.floor_points[:4]]

    def second_corners(self):
        """The first four floor points as the second picture shows them."""
        return [in_second(seen) for seen in self.floor_points[:4]]

    def floors_known(self):
        if len(self.floor_points) < 4:
            return False
        return no_three_on_a_line(self.first_corners()) and no_three_on_a_line(self.second_corners())

    def across(self, point):
        """Only where the floors are known."""
        return carried(point, weighed(self.first_corners()), weighed(self.second_corners()))

    def back(self, point):
        """Only where the floors are known."""
        return carried(point, weighed(self.second_corners()), weighed(self.first_corners()))

    def shift_line(self, seen):
        """Along it what is seen is off the floor; three times 0 for what is on it. Only where the floors are known."""
        return cross(self.across(in_first(seen)), in_second(seen))

    def lies(self, seen):
        """Only where the floors are known."""
        return is_nowhere(self.shift_line(seen))

    def stand(self):
        """Three times 0 where the lines of things 0 and 1 do not meet in just one point."""
        return cross(self.shift_line(self.things[0]), self.shift_line(self.things[1]))

    def is_ready(self):
        if len(self.things) < 2 or not self.floors_known():
            return False
        return not is_nowhere(self.stand())

    def track(self, point):
        """Of a point of the first picture; three times 0 where across takes it to the stand. Only where it is ready."""
        return cross(self.stand(), self.across(point))

    def first_track(self, point):
        """Of a point of the second picture; three times 0 where it is the stand. Only where it is ready."""
        return cross(self.back(self.stand()), self.back(point))

    def may(self, seen):
        """Any point is on the track of one that is taken to the stand. Only where it is ready."""
        return dot(self.track(in_first(seen)), in_second(seen)) == 0

    def fits(self):
        """Only where it is ready."""
        return all([self.lies(seen) for seen in self.floor_points]) and all([self.may(seen) for seen in self.things])

    def lift(self, seen):
        """As a number above and one below; None where none is to be told. Only where it is ready.

        With X where across takes the first point, E the stand and x the second point, X + lift * E is x up to a
        factor: so cross(X, x) is lift times cross(x, E), which is three times 0 where x is the stand.
        """
        if is_nowhere(self.track(in_first(seen))) or not self.may(seen):
            return None
        return ratio(self.shift_line(seen), cross(in_second(seen), self.stand()))
