"""Seatplan: groups that sit together."""
