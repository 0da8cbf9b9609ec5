"""Notslower: changes that never make a program slower."""
