"""The tests of beaconcoasts."""
