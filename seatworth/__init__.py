"""Seatworth: seats sold over time, each ask at its chance."""
