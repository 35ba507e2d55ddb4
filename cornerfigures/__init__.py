"""Convex figures whose corners are whole points, put together."""
