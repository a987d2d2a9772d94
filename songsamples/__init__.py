"""Songs in the standard MIDI form: songsamples.song.answers makes the calls on one song."""
