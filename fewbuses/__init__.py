"""Fewbuses: the trips of a day, done by as few buses as can be."""
