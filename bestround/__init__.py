"""Bestround: gates that multiply and add, and the best order to pass them."""
