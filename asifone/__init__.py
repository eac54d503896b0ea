"""Asifone: training on a fleet that equals one process word for word."""
