"""Callpact: routines that keep to a pact when they call one another."""
