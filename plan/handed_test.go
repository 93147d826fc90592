package plan

import (
	"iter"
	"slices"
	"testing"

	"revetment/api"
	"revetment/conf"
)

// TestBrokenOff: who ranges over steps may leave at each of them, and has had
// all up to there.
func TestBrokenOff(t *testing.T) {
	c := conf.Plain()
	for _, steps := range []iter.Seq[api.Step]{writes(c, 3, 23), lacks(c, []int{0, 2, 3, 30}, 26)} {
		all := gather(steps)
		for n := range len(all) {
			var some []api.Step
			for s := range steps {
				some = append(some, s)
				if len(some) > n {
					break
				}
			}
			if !slices.Equal(some, all[:n+1]) {
				t.Errorf("%+v, want %+v", some, all[:n+1])
			}
		}
	}
}
