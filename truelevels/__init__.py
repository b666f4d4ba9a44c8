"""truelevels: heights of marks from readings of differences, some of which lie."""
