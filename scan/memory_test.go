package scan_test

import (
	"bytes"
	"fmt"
	"slices"
	"testing"

	"revetment/api"
	"revetment/rec"
	"revetment/scan"
)

// roomy is s in memory of its own, with spare room behind each list.
func roomy(s api.State) api.State {
	s = twin(s)
	s.Status = append(s.Status, 8, 8, 8)[:len(s.Status)]
	for i := range s.Zones {
		z := &s.Zones[i]
		for j := range z.Pars {
			p := &z.Pars[j]
			p.B = append(p.B, bytes.Repeat([]byte{8}, 300)...)[:len(p.B)]
		}
		z.Pars = append(z.Pars, par(8, 8), par(9, 9), par(8, 7))[:len(z.Pars)]
	}
	more := api.Zone{Gen: 8, Slot: 8, Pars: []api.Par{par(3, 3)}}
	s.Zones = append(s.Zones, more, more, more)[:len(s.Zones)]
	return s
}

// opened is s with all lists as long as their room.
func opened(s api.State) api.State {
	s.Status = s.Status[:cap(s.Status)]
	s.Zones = slices.Clone(s.Zones[:cap(s.Zones)])
	for i := range s.Zones {
		z := &s.Zones[i]
		z.Pars = slices.Clone(z.Pars[:cap(z.Pars)])
		for j := range z.Pars {
			z.Pars[j].B = z.Pars[j].B[:cap(z.Pars[j].B)]
		}
	}
	return s
}

// fill writes over a list and its spare room.
func fill(b []byte) {
	b = b[:cap(b)]
	for i := range b {
		b[i] = 0xee
	}
}

// spoilers write over one list each, and its spare room: all lists of s. They
// are asked in an order in which none loses what a later one is of.
func spoilers(s api.State) []func() {
	var l []func()
	zones := s.Zones[:cap(s.Zones)]
	for i := range zones {
		pars := zones[i].Pars[:cap(zones[i].Pars)]
		for j := range pars {
			l = append(l, func() { fill(pars[j].B) })
		}
		l = append(l, func() {
			for j := range pars {
				pars[j] = api.Par{W: -77}
			}
		})
	}
	return append(l, func() {
		for i := range zones {
			zones[i] = api.Zone{Gen: -77, Slot: -77}
		}
	}, func() {
		for i := range s.Status[:cap(s.Status)] {
			s.Status[:cap(s.Status)][i] = -77
		}
	})
}

// spoil writes over all lists of s.
func spoil(s api.State) {
	for _, f := range spoilers(s) {
		f()
	}
}

// spoiled is how many lists of s are written to, that was as was is.
func spoiled(s, was api.State) int {
	n := 0
	if !slices.Equal(s.Status, was.Status) {
		n++
	}
	if s.Zones[0].Gen == -77 {
		n++
		s.Zones = was.Zones
	}
	for i, z := range s.Zones {
		if len(z.Pars) > 0 && z.Pars[0].W == -77 {
			n++
			z.Pars = nil
		}
		for j, p := range z.Pars {
			if !bytes.Equal(p.B, was.Zones[i].Pars[j].B) {
				n++
			}
		}
	}
	return n
}

// parityTrail is a log whose states have parities of the checkpoint alone, of
// records alone, and of both.
func parityTrail(t *testing.T) *trail {
	t.Helper()
	return laidFrom(t, mixed(), 0,
		api.Rec{Kind: api.RecParity, Zone: 1, Gen: top, W: 8, Body: row(sixBytes, 6)},
		api.Rec{Kind: api.RecParity, Zone: 4, W: 9, Body: row(sixBytes, 6)},
		api.Rec{Kind: api.RecParity, Zone: 4, W: 9, Body: row(sixBytes, 6)},
		api.Rec{Kind: api.RecWhole, Zone: 2},
	)
}

// TestLogIsNewMemory: what is found shares nothing with the bytes, nor with
// what is found once more.
func TestLogIsNewMemory(t *testing.T) {
	r := parityTrail(t)
	for i := range r.recs {
		what := fmt.Sprint("up to ", i)
		b, _ := r.pieces(i)
		b = append(b, row(300, 1)...)[:len(b)]
		was := bytes.Clone(b[:cap(b)])
		first, _ := scan.Log(b, six(), 0)
		second, _ := scan.Log(b, six(), 0)
		spoil(first.State)
		if !bytes.Equal(b[:cap(b)], was) {
			t.Errorf("%s: an answer written to: the bytes are others", what)
		}
		if !alike(second.State, r.states[i]) {
			t.Errorf("%s: an answer written to: another one is, too", what)
		}
		r.reads(t, what+", once more", b, i)
		fill(b)
		if !alike(second.State, r.states[i]) {
			t.Errorf("%s: the bytes written to: an answer is another one", what)
		}
		refuses(t, what+", written over", b, six(), 0, api.ErrForm)
	}
}

// TestListsOfFoundAreApart: no two lists of one answer share anything.
func TestListsOfFoundAreApart(t *testing.T) {
	r := parityTrail(t)
	for last := range r.recs {
		b, _ := r.pieces(last)
		was, _ := scan.Log(b, six(), 0)
		n := len(spoilers(was.State))
		for i := range n {
			f, _ := scan.Log(b, six(), 0)
			all := spoilers(f.State)
			if len(all) != n {
				t.Fatalf("up to %d: %d lists, and %d", last, n, len(all))
			}
			all[i]()
			if unlike := spoiled(f.State, was.State); unlike > 1 {
				t.Errorf("up to %d: list %d written to: %d lists are others", last, i, unlike)
			}
		}
	}
}

// TestPutsChangeNothing: what First and Next are handed, spare room too, stays,
// and what they answer is new.
func TestPutsChangeNothing(t *testing.T) {
	states := []api.State{mixed(), begun(six()), begun(narrow())}
	for _, w := range wrongs() {
		states = append(states, w.s)
	}
	for i, s := range states {
		s = roomy(s)
		was := twin(opened(s))
		for _, n := range []int{0, 1, 16, sixBytes} {
			all := bytes.Repeat([]byte{7}, 3*n+8)
			x := api.Rec{Kind: 4, Epoch: 3, Seq: 4, Zone: 5, Body: all[:n]}
			for what, lay := range map[string]func() []byte{
				"First": func() []byte { return scan.First(s, 1) },
				"Next":  func() []byte { return scan.Next(s, x) },
			} {
				what = fmt.Sprint(what, " of state ", i, ", ", n, " bytes")
				first, second := lay(), lay()
				want := bytes.Clone(second)
				lays(t, what+", twice", first, second)
				fill(first)
				lays(t, what+", an answer written to: another", second, want)
				lays(t, what+", an answer written to: once more", lay(), want)
				if !alike(opened(s), was) || !bytes.Equal(all, bytes.Repeat([]byte{7}, 3*n+8)) {
					t.Errorf("%s: what was handed in is another one", what)
				}
				fill(all)
				lays(t, what+", Body written to", second, want)
				copy(all, bytes.Repeat([]byte{7}, len(all)))
			}
			if x.Epoch != 3 || x.Seq != 4 || len(x.Body) != n {
				t.Errorf("state %d: the record is another one", i)
			}
		}
	}
}

// TestPutsKeepNoState: what is laid stays as it is, when the state is written
// to.
func TestPutsKeepNoState(t *testing.T) {
	s := roomy(mixed())
	first, next := scan.First(s, 1), scan.Next(s, api.Rec{Kind: 2})
	a, b := bytes.Clone(first), bytes.Clone(next)
	spoil(s)
	lays(t, "First", first, a)
	lays(t, "Next", next, b)
	lays(t, "First of what is wrong now", scan.First(s, 1), nil)
}

// TestNilAndEmptyAreAlike: in all that scan is handed.
func TestNilAndEmptyAreAlike(t *testing.T) {
	s := begun(six())
	e := with(s, func(s *api.State) {
		for i := range s.Zones {
			s.Zones[i].Pars = []api.Par{}
		}
	})
	lays(t, "First", scan.First(e, 1), scan.First(s, 1))
	lays(t, "Next", scan.Next(e, api.Rec{Kind: 2, Body: []byte{}}), scan.Next(s, api.Rec{Kind: 2}))
	lays(t, "First of nothing", scan.First(api.State{Status: []int{}, Zones: []api.Zone{}}, 0), nil)
}

// TestAnswersHangOnArgumentsAlone: whatever was asked ahead.
func TestAnswersHangOnArgumentsAlone(t *testing.T) {
	r := sixTrail(t)
	for range 3 {
		r.reads(t, "all", r.laid, r.last())
		r.cut(t, "less", r.ends[3])
		refuses(t, "another member's", r.laid, six(), 2, api.ErrForm)
		lays(t, "First", scan.First(r.states[4], 1), rec.Put(check(r.states[4], 1), 64))
		lays(t, "Next", scan.Next(r.states[4], r.recs[5]), rec.Put(r.recs[5], 64))
		lays(t, "First of no member", scan.First(r.states[4], 4), nil)
		refuses(t, "no bytes", nil, six(), 1, api.ErrShort)
	}
}
