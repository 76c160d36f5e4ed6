"""One place saved a turn: a fire in a tree of places, and what can be kept from it."""
