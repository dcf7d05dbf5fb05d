"""Pacerose: how long going takes in each direction, and what holds for all roses."""
