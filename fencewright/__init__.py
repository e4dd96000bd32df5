"""Fencewright: puts that come late, and fences that wait for them."""
