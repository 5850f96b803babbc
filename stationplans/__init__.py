"""Capacity planning for queueing stations, with exact results."""
