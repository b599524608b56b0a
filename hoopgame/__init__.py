"""A game of croquet refereed."""
