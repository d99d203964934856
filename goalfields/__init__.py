"""Fields of ways: how far each place of a map is from the nearest goal, and how a crowd goes there."""
