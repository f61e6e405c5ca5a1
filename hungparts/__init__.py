"""Hungparts: changing the parts of a table while sessions go on."""
