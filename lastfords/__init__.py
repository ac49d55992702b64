"""Islands, fords of unknown heights, and a water that rises."""
