"""Several wishes, and the orders in which they can be met."""

from pawldials.closing import given_by
from pawldials.deciding import farthest
from pawldials.errors import NoDial, NoReason, NoWishes
from pawldials.graph import Graph
from pawldials.houses import check_house, check_standing, wishes_well
from pawldials.layout import Layout
from pawldials.nearest import check_walk_to
from pawldials.papers import is_bar_alone, is_bar_behind, is_wish_ring
from pawldials.reaching import can_reach, paper_against, pawl_nodes, price_between, pulled, told_from, worth_at
from pawldials.ways import Ways

MOST_WISHES = 10
MOST_TRIED = 5


def check_wishes(house, standing, wishes, most):
    """Refuse what is no house, no standing, no list of one to so many wishes, in this order."""
    check_house(house)
    check_standing(house, standing)
    if not isinstance(wishes, list) or not 1 <= len(wishes) <= most:
        raise NoWishes("no list of so many wishes")
    if not all(wishes_well(house, wish) for wish in wishes):
        raise NoWishes("a wish that is none of this house")


def given_by_each(house, wishes):
    """What each wish gives, by itself."""
    ways = Ways(Graph(house))
    return [given_by(ways, wish) for wish in wishes]


def node_between(first, second):
    """The node of a dial with a pawl at which the first wish gives what the second one denies; else None.

    Both can be met alone; the second one can't be met behind the first where there is such a node.
    """
    for node in pawl_nodes(first.ways.graph):
        if first.best[node] + second.best[node ^ 1] > 0:
            return node
    return None


def pair_of(first, second):
    """The two chains by which the second wish can't be met behind the first; None where it can."""
    node = node_between(first, second)
    if node is None:
        return None
    return first.chain_to(node), second.chain_to(node ^ 1)


def bar_behind(standing, wishes, told, n):
    """The bar of wish n behind those ahead of it."""
    paper = paper_against(told[n].ways, standing, wishes[n])
    if paper is not None:
        return ("bar", n, paper)
    for m in range(n):
        pair = pair_of(told[m], told[n])
        if pair is not None:
            return ("bar", n, ("pair", m, pair[0], pair[1]))
    return None


def in_order(house, standing, wishes):
    """The list of what nearest tells of each wish from the standing behind the one ahead; else what bars one."""
    check_wishes(house, standing, wishes, MOST_WISHES)
    told = given_by_each(house, wishes)
    here = standing
    rows = []
    for n in range(len(wishes)):
        row = told_from(told[n], here)
        if row is None:
            return bar_behind(standing, wishes, told, n)
        rows.append(row)
        here = row[0]
    return rows


def bars_order(house, standing, wishes, paper):
    """Whether it is a bar as in_order tells: then no walk meets the wishes in this order."""
    check_wishes(house, standing, wishes, MOST_WISHES)
    layout = Layout(house)
    if is_bar_alone(layout, layout.by_names(standing), wishes, paper):
        return True
    return is_bar_behind(layout, wishes, paper)


def ahead_of_each(told):
    """Of each wish m the rising list of the numbers of those that have to come ahead of it."""
    count = len(told)
    return [[n for n in range(count) if node_between(told[m], told[n]) is not None] for m in range(count)]


def unneeding(needs, rest):
    """Those of the rest that need none of the rest ahead."""
    return [n for n in rest if not any(m in rest for m in needs[n])]


def order_of(needs, numbers):
    """A tuple of the order of these wishes as far as it goes, and the rest, each of which has one of the rest ahead."""
    order = []
    rest = list(numbers)
    found = unneeding(needs, rest)
    while found:
        order.append(found[0])
        rest.remove(found[0])
        found = unneeding(needs, rest)
    return order, rest


def round_of(needs, rest):
    """Numbers of wishes each of which has to come behind the next, the last behind the first."""
    path = [rest[0]]
    while True:
        n = [m for m in needs[path[-1]] if m in rest][0]
        if n in path:
            return path[path.index(n):]
        path.append(n)


def ring_of(told, path):
    """The ring that bars every order."""
    links = []
    for k, m in enumerate(path):
        n = path[(k + 1) % len(path)]
        chain, second = pair_of(told[m], told[n])
        links.append((m, chain, n, second))
    return ("ring", links)


def first_barred(standing, told):
    """The number of the first wish that can't be met alone; None where all can."""
    for n, given in enumerate(told):
        if not can_reach(given, standing):
            return n
    return None


def any_order(house, standing, wishes):
    """("order", list) of the wishes' numbers, ("bar", n, paper) of one that can't be met, or a ("ring", list)."""
    check_wishes(house, standing, wishes, MOST_WISHES)
    told = given_by_each(house, wishes)
    n = first_barred(standing, told)
    if n is not None:
        return ("bar", n, paper_against(told[n].ways, standing, wishes[n]))
    needs = ahead_of_each(told)
    order, rest = order_of(needs, list(range(len(wishes))))
    if rest:
        return ring_of(told, round_of(needs, rest))
    return ("order", order)


def bars_any(house, standing, wishes, paper):
    """Whether it is a bar or a ring as any_order tells: then no order goes."""
    check_wishes(house, standing, wishes, MOST_WISHES)
    layout = Layout(house)
    if is_bar_alone(layout, layout.by_names(standing), wishes, paper):
        return True
    return is_wish_ring(layout, wishes, paper)


def needs_of(house, standing, wishes):
    """Of each wish those that have to come ahead; NoReason where one can't be met alone."""
    told = given_by_each(house, wishes)
    if first_barred(standing, told) is not None:
        raise NoReason("a wish that can't be met alone")
    return ahead_of_each(told)


def ahead(house, standing, wishes):
    """The rising list of all (n, m) so that wish n can't be met behind wish m."""
    check_wishes(house, standing, wishes, MOST_WISHES)
    needs = needs_of(house, standing, wishes)
    return sorted([(n, m) for m, those in enumerate(needs) for n in those])


def spared(house, standing, wishes):
    """The rising list of the numbers of wishes without which all others can be met."""
    check_wishes(house, standing, wishes, MOST_WISHES)
    needs = needs_of(house, standing, wishes)
    numbers = list(range(len(wishes)))
    if not order_of(needs, numbers)[1]:
        raise NoReason("all can be met")
    return [k for k in numbers if not order_of(needs, [n for n in numbers if n != k])[1]]


def all_orders(count):
    """All orders of so many numbers, as lists, rising."""
    orders = [[]]
    for place in range(count):
        orders = [order + [n] for order in orders for n in range(count) if n not in order]
    return orders


def price_in_order(standing, told, order):
    """The price of meeting the wishes in this order, None where that doesn't go."""
    here = standing
    price = 0
    for n in order:
        if not can_reach(told[n], here):
            return None
        there = pulled(told[n], here)
        price += price_between(told[n].ways.graph, here, there)
        here = there
    return price


def cheapest(house, standing, wishes):
    """A tuple of the least price of all orders that go, and the first such order; None where none goes."""
    check_wishes(house, standing, wishes, MOST_TRIED)
    told = given_by_each(house, wishes)
    found = None
    for order in all_orders(len(wishes)):
        price = price_in_order(standing, told, order)
        if price is not None and (found is None or price < found[0]):
            found = (price, order)
    return found


def open_now(house, standing, wishes):
    """The rising list of the numbers of wishes that can be met alone."""
    check_wishes(house, standing, wishes, MOST_WISHES)
    return [n for n, told in enumerate(given_by_each(house, wishes)) if can_reach(told, standing)]


def has_pawl(house, name):
    """Whether it is the name of a dial with a pawl."""
    return any(dial[0] == name and dial[3] != "both" for dial in house[0])


def till(house, standing, wish, name):
    """The farthest number in its way to which a dial with a pawl may come, so that the wish can still be met."""
    check_walk_to(house, standing, wish)
    if not has_pawl(house, name):
        raise NoDial("no dial with a pawl")
    told = given_by(Ways(Graph(house)), wish)
    if not can_reach(told, standing):
        return None
    graph = told.ways.graph
    for node in pawl_nodes(graph):
        told.say(node, worth_at(standing, node))
    up = graph.spots[name] in pawl_nodes(graph)
    node = graph.spots[name] if up else graph.spots[name] + 1
    worth = farthest(told, node, worth_at(standing, node))
    return worth if up else -worth
