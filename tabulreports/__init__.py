"""Reports of a tabulating room: what a report's text asks for, and what is wrong with it."""
