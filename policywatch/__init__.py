"""A deployment monitor for agents that may recognise tests."""
