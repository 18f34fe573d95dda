"""A totalisator's day: the money in a card's pools."""
