"""Heldflows: a balancer that keeps nothing, and agents that hold flows."""
