"""Nash implementation of social choice correspondences with three agents."""
