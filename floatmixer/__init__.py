"""A mixer of sound in single floats, told to the bit: see floatmixer.mixer.answers."""
