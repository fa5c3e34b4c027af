"""Road works: the machine that minds the light at one end of a lane."""
