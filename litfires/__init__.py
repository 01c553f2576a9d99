"""Fires lit one by one: in how few turns all places burn, and by which places lit."""
