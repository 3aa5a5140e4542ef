"""Legseats: seats sold from stop to stop."""
