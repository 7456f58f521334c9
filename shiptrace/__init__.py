"""Shiptrace: a delivery pipeline in which every character carries its origin."""
