"""Climborsink: craft that come near one another are told to climb or to sink, in agreement."""
