"""Passenger records made by entries of agents."""
