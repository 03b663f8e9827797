"""Grain bought and sold from day to day, with a store between."""
