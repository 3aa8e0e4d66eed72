"""Settings of songs on a lute: the functions to call are in lutesettings.songs."""
