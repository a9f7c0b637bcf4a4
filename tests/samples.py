"""Orders for the tests to go through."""

from itertools import permutations


def all_orders(n):
    return [list(cards) for cards in permutations(range(n))]


def mixed(n):
    """An order of n cards without a plain pattern: card after card drawn from what is left."""
    left = list(range(n))
    order = []
    state = n
    while left:
        state = (state * 1103 + 12345) % 65537
        order.append(left.pop(state % len(left)))
    return order


def large_orders(n):
    upward = list(range(n))
    return [upward, upward[::-1], upward[1::2] + upward[::2], upward[n // 2:] + upward[:n // 2], mixed(n)]


def sample_orders():
    orders = []
    for n in range(1, 7):
        orders.extend(all_orders(n))
    for n in range(7, 61):
        orders.extend(large_orders(n))
    return orders
