"""Tests of legseats."""
