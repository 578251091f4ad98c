"""Nights in the air: for how many nights a gas balloon can stay up."""
