"""Jointhold: land held jointly or in common, parts through deaths and severings."""
