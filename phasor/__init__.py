"""Phasor: an optimizing compiler for Clifford+T circuits."""
