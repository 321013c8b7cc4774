"""Lawsleft: the cheapest program that is alike under any laws."""
