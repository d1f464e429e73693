"""The limits that callers may rely on."""

MOST_ISLANDS = 5
MOST_BRIDGES = 10 ** 30
MOST_PRICE = 10 ** 6
MOST_OFFERS = 6
