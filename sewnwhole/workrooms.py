"""Workrooms: a stock of fabric, and the orders that take from it."""

from sewnwhole.assemblies import Assembly
from sewnwhole.errors import WorkroomError
from sewnwhole.fabric import added_areas, fabric_needed
from sewnwhole.limits import ORDERS, STOCK
from sewnwhole.patches import fits

WAITING = "waiting"
STARTED = "started"
CANCELED = "canceled"


def total_area(areas):
    """Return the sum of areas of fabrics."""
    return sum([area for _, area in areas])


def less(areas):
    """Return the list of the pairs that take away areas of fabrics where they are added."""
    return [(fabric, -area) for fabric, area in areas]


def with_state(orders, number, state):
    """Return the list of orders in which the one with a number has another state."""
    pattern, patches, areas, _ = orders[number - 1]
    return orders[:number - 1] + [(pattern, patches, areas, state)] + orders[number:]


class Workroom:
    """A stock, the orders, and the deeds that may be taken back.

    An order is a tuple (pattern, patches, areas, state).
    """

    def __init__(self):
        self._bought = 0
        # The lists of areas and of orders are never modified, so that the deeds can keep what was there before them.
        self._stock = []
        self._orders = []
        self._deeds = []

    @property
    def stock(self):
        """A new list of the areas of the fabrics of which there is some."""
        return list(self._stock)

    @property
    def orders(self):
        """A new list of the pairs (number, whether it has been started) of the orders that are not canceled."""
        return [
            (number, order[3] == STARTED)
            for number, order in enumerate(self._orders, start=1)
            if order[3] != CANCELED
        ]

    @property
    def totals(self):
        """The triple of the areas that were bought, that are in stock, and that the open orders took."""
        taken = [total_area(order[2]) for order in self._orders if order[3] != CANCELED]
        return self._bought, total_area(self._stock), sum(taken)

    def _keep(self, deed):
        """Keep the name of a deed, and what was there before it."""
        self._deeds.append((deed, self._bought, self._stock, self._orders))

    def _check_waiting(self, order):
        """Raise WorkroomError if an order is not there any more, or has been started."""
        if order not in self:
            raise WorkroomError("no such order")
        if self._orders[order - 1][3] == STARTED:
            raise WorkroomError("already started")

    def buy(self, fabric, area):
        """Add an area to the stock of a fabric, and return this stock; raise WorkroomError."""
        stock = added_areas(self._stock, [(fabric, area)])
        total = dict(stock).get(fabric, 0)
        if total > STOCK:
            raise WorkroomError("too much")
        self._keep("buy")
        self._bought += area
        self._stock = stock
        return total

    def take(self, pattern, patches, cell_size, allowance):
        """Take an order, with what it needs from the stock, and return its number; raise WorkroomError."""
        if not fits(pattern, patches):
            raise WorkroomError("patches do not fit")
        if len(self._orders) >= ORDERS:
            raise WorkroomError("too many orders")
        areas = fabric_needed(pattern, patches, cell_size, allowance)
        stock = added_areas(self._stock, less(areas))
        if any([area < 0 for _, area in stock]):
            raise WorkroomError("not enough")
        self._keep("take")
        self._stock = stock
        self._orders = self._orders + [(pattern, patches, areas, WAITING)]
        return len(self._orders)

    def cancel(self, order):
        """Cancel an order, and return the areas that it took, which are in stock again; raise WorkroomError."""
        self._check_waiting(order)
        areas = self._orders[order - 1][2]
        self._keep("cancel")
        self._stock = added_areas(self._stock, areas)
        self._orders = with_state(self._orders, order, CANCELED)
        return list(areas)

    def start(self, order):
        """Start an order, and return a new assembly for it; raise WorkroomError."""
        self._check_waiting(order)
        pattern, patches, _, _ = self._orders[order - 1]
        self._keep("start")
        self._orders = with_state(self._orders, order, STARTED)
        return Assembly(pattern, patches)

    def undo(self):
        """Take back the last deed that is left, and return its name, or False if there is none."""
        if not self._deeds:
            return False
        deed, self._bought, self._stock, self._orders = self._deeds.pop()
        return deed

    def __len__(self):
        return len(self.orders)

    def __contains__(self, order):
        # Any value may be asked, and True and False are not integers here.
        if not isinstance(order, int) or isinstance(order, bool):
            return False
        return 1 <= order <= len(self._orders) and self._orders[order - 1][3] != CANCELED
