"""Reports of a tabulating room: what a report's text means of a deck, and the plan that brings it."""
