"""Fleets: a floor with robots and orders ([27] to [30])."""


class Robot:
    """A robot: where it stands, whether it is broken, and its kept way home."""

    def __init__(self, place, broken=False, way=()):
        self.place = place
        self.broken = broken
        self.way = list(way)

    def twin(self):
        """Return a robot that is like this one."""
        return Robot(self.place, self.broken, self.way)


class Order:
    """An order from a start to a goal, by the numbers of the stations."""

    def __init__(self, start, goal):
        self.start = start
        self.goal = goal
        self.done = False
        self.robot = None
        self.loaded = False

    def twin(self):
        """Return an order that is like this one."""
        other = Order(self.start, self.goal)
        other.done = self.done
        other.robot = self.robot
        other.loaded = self.loaded
        return other

    def give(self, robot):
        """Let a robot serve this order."""
        self.robot = robot

    def load(self):
        """Note that the robot of this order has its load."""
        self.loaded = True

    def release(self):
        """Take the robot and the load off this order."""
        self.robot = None
        self.loaded = False

    def finish(self):
        """Note that this order is done."""
        self.release()
        self.done = True


class Fleet:
    """Robots and orders on a floor. At first all robots run and are in the depot."""

    def __init__(self, floor, *, robots, patience=4):
        self.floor = floor
        self.patience = patience
        self.robots = [Robot(floor.depot) for _ in range(robots)]
        self.orders = []

    def twin(self):
        """Return a fleet that is like this one and shares only the floor with it."""
        other = Fleet(self.floor, robots=0, patience=self.patience)
        other.robots = [robot.twin() for robot in self.robots]
        other.orders = [order.twin() for order in self.orders]
        return other

    def closed(self):
        """Return the cells of broken robots on the floor, ascending."""
        depot = self.floor.depot
        return sorted([robot.place for robot in self.robots if robot.broken and robot.place != depot])

    def taken(self):
        """Return the cells of all robots on the floor, ascending."""
        return sorted([robot.place for robot in self.robots if robot.place != self.floor.depot])

    def running(self):
        """Return the numbers of the robots on the floor that run, ascending."""
        depot = self.floor.depot
        return [at for at, robot in enumerate(self.robots) if not robot.broken and robot.place != depot]

    def kept_ways(self, numbers):
        """Return the ways of robots, in the order of their numbers in the list."""
        return [list(self.robots[number].way) for number in numbers]

    def order_of(self, robot):
        """Return the number of the order that a robot serves, or None."""
        for number, order in enumerate(self.orders):
            if not order.done and order.robot == robot:
                return number
        return None

    def aim(self, number):
        """Return the cells to which the robot of an open order has to come."""
        order = self.orders[number]
        station = order.goal if order.loaded else order.start
        return list(self.floor.stations[station])

    def is_free(self, robot):
        """Return whether a robot runs and serves no order."""
        return not self.robots[robot].broken and self.order_of(robot) is None

    def first_open(self):
        """Return the number of the first open order, or that of all orders if there is none."""
        for number, order in enumerate(self.orders):
            if not order.done:
                return number
        return len(self.orders)

    def count_broken(self):
        """Return how many robots are broken."""
        return len([robot for robot in self.robots if robot.broken])

    def count_done(self):
        """Return how many orders are done."""
        return len([order for order in self.orders if order.done])
