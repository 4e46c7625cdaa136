"""Formlines: forms whose lines are rules over other lines."""
