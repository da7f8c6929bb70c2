"""clearfloor: a controller of warehouse robots that break down anywhere."""
