"""The limits of the document, under the names that it gives them."""

MOST_PARTS = 8
MOST_TIES = 56
MOST_STRENGTH = 1000000
MOST_DAYS = 12
MOST_OFFERS = 6
MOST_DOUBTS = 6
MOST_SEEN = 12
