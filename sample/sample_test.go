package sample_test

import (
	"testing"

	"revetment/api"
	"revetment/conf"
	"revetment/sample"
)

// TestSettings: that the settings are what they are said to be.
func TestSettings(t *testing.T) {
	for want, some := range map[api.Errno][]api.Conf{
		api.OK:       append(sample.Good(), sample.Small(), sample.Great()),
		api.ErrArg:   sample.Argued(),
		api.ErrSpace: sample.Tight(),
	} {
		for _, c := range some {
			if e := conf.Check(c); e != want {
				t.Errorf("%+v: %d, want %d", c, int(e), int(want))
			}
		}
	}
	for _, c := range sample.Refused() {
		if conf.Check(c) == api.OK {
			t.Errorf("%+v: not refused", c)
		}
	}
}
