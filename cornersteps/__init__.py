"""Cornersteps: tables solved with no fraction on the way, and papers that show what they tell."""
