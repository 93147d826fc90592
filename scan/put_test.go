package scan_test

import (
	"fmt"
	"slices"
	"testing"

	"revetment/api"
	"revetment/conf"
	"revetment/rec"
	"revetment/sample"
	"revetment/scan"
	"revetment/state"
)

// P12.1: First

// firsts are members that may be, or not, of so many.
func firsts(members int) []int {
	l := []int{least, least + 1, -members, -2, -1, members, members + 1, api.MaxMembers, 256, 1 << 32, top, greatest}
	for m := range members {
		l = append(l, m, m+1<<32)
	}
	return l
}

// TestFirstByHand: bytes that are written out.
func TestFirstByHand(t *testing.T) {
	s := begun(conf.Plain())
	s.Epoch, s.Seq, s.Status[1] = 258, 3, 1
	s.Zones[2].Gen, s.Zones[2].Slot, s.Zones[2].Full = 5, 3, true
	body := slices.Concat(
		numbers(7, 4, 2, 64, 24, 3, 1, 3, 2, 3, 7), numbers(258, 3), numbers(0, 1, 0, 0),
		numbers(0, -1), []byte{0}, numbers(0), []byte{0}, numbers(0),
		numbers(0, -1), []byte{0}, numbers(0), []byte{0}, numbers(0),
		numbers(5, 3), []byte{1}, numbers(0), []byte{0}, numbers(0),
	)
	payload := slices.Concat(numbers(0, 258, 3, 0, 0, 0, 0, 2, 0, len(body)), body)
	lays(t, "First", scan.First(s, 2), framed(payload, 64))
}

func TestFirst(t *testing.T) {
	for i, s := range rights() {
		for _, m := range firsts(s.Conf.Members) {
			what := fmt.Sprint("state ", i, ", member ", m)
			b := scan.First(s, m)
			if m < 0 || m >= s.Conf.Members {
				lays(t, what, b, nil)
				continue
			}
			lays(t, what, b, rec.Put(check(s, m), s.Conf.Block))
			reads(t, what, b, s.Conf, m, api.Found{State: s, Blocks: len(b) / s.Conf.Block})
		}
	}
}

func TestFirstOfNumbers(t *testing.T) {
	for _, epoch := range []int{1, 2, top - 1, top} {
		for _, seq := range []int{0, 1, top - 1, top} {
			s := with(mixed(), func(s *api.State) { s.Epoch, s.Seq = epoch, seq })
			b := scan.First(s, 3)
			lays(t, fmt.Sprint("Epoch ", epoch, ", Seq ", seq), b, rec.Put(check(s, 3), 64))
			reads(t, fmt.Sprint("Epoch ", epoch, ", Seq ", seq), b, six(), 3, api.Found{State: s, Blocks: len(b) / 64})
		}
	}
}

// TestWrongStatesLayNothing: neither First nor Next, whatever else is handed.
func TestWrongStatesLayNothing(t *testing.T) {
	for _, w := range wrongs() {
		if state.Right(w.s) {
			t.Errorf("%s: it is right", w.what)
		}
		for m := -1; m <= 4; m++ {
			lays(t, w.what+": First", scan.First(w.s, m), nil)
		}
		for kind := range 7 {
			lays(t, w.what+": Next", scan.Next(w.s, api.Rec{Kind: kind}), nil)
			lays(t, w.what+": Next", scan.Next(w.s, next(w.s, api.Rec{Kind: kind, Body: row(64, 1)})), nil)
		}
	}
}

// TestFirstOfManyBytes: a record has no more than MaxText of them, and of what
// is no record nothing is laid.
func TestFirstOfManyBytes(t *testing.T) {
	s := begun(sample.Great())
	for i := range 6 {
		z := &s.Zones[i*10]
		z.Slot = i
		z.Pars = []api.Par{{W: i + 1, B: row(64*4096, i)}}
		n := len(state.Put(s))
		what := fmt.Sprint(n, " bytes")
		b := scan.First(s, 15)
		if n > api.MaxText {
			lays(t, what, b, nil)
			continue
		}
		lays(t, what, b, rec.Put(check(s, 15), 4096))
		reads(t, what, b, s.Conf, 15, api.Found{State: s, Blocks: len(b) / 4096})
	}
	if n := len(state.Put(s)); n <= api.MaxText {
		t.Errorf("%d bytes are no more than may be", n)
	}
}

// P12.1: Next

// TestNextByHand: bytes that are written out.
func TestNextByHand(t *testing.T) {
	s := begun(conf.Plain())
	s.Epoch, s.Seq = 258, 3
	x := api.Rec{Kind: 4, Epoch: 9, Seq: 9, Zone: 2, Gen: 5, Slot: -1, W: 7, Member: 1, Status: 3, Body: []byte("abc")}
	payload := slices.Concat(numbers(4, 258, 4, 2, 5, -1, 7, 1, 3, 3), []byte("abc"))
	lays(t, "Next", scan.Next(s, x), framed(payload, 64))
}

// lines checks Next of x behind s, by what rec lays of the record.
func lines(t *testing.T, what string, s api.State, x api.Rec) {
	t.Helper()
	b := scan.Next(s, x)
	lays(t, what, b, rec.Put(next(s, x), s.Conf.Block))
	if len(b) == 0 {
		t.Errorf("%s: nothing is laid", what)
	}
}

// kinds are records of each kind, RecCheck among them, that follow or do not.
func kinds() []api.Rec {
	l := append(allKinds(), check(mixed(), 1), api.Rec{Slot: -1}, api.Rec{Kind: 6, Zone: top, Gen: top, Slot: top, W: top, Member: top, Status: top})
	for kind := range 7 {
		l = append(l, api.Rec{Kind: kind, Zone: 2, Gen: 3, Slot: 4, W: 5, Member: 6, Status: 7, Body: row(kind, kind)})
	}
	return l
}

func TestNext(t *testing.T) {
	for i, s := range rights() {
		for j, x := range kinds() {
			lines(t, fmt.Sprint("state ", i, ", record ", j), s, x)
		}
	}
}

// TestNextNamesEpochAndSeq: whatever the record names, it has those of the
// state.
func TestNextNamesEpochAndSeq(t *testing.T) {
	some := []int{least, -1, 0, 1, 6, 7, 8, top, top + 1, greatest}
	for _, x := range kinds() {
		for _, s := range []api.State{mixed(), begun(six())} {
			want := rec.Put(next(s, x), 64)
			for _, epoch := range some {
				for _, seq := range some {
					x.Epoch, x.Seq = epoch, seq
					lays(t, fmt.Sprint("Epoch ", epoch, ", Seq ", seq), scan.Next(s, x), want)
				}
			}
			y, n, e := rec.Get(scan.Next(s, x), 64)
			if e != api.OK || y.Epoch != s.Epoch || y.Seq != s.Seq+1 || n*64 != len(want) {
				t.Errorf("kind %d: error %d, Epoch %d, Seq %d, %d blocks", x.Kind, int(e), y.Epoch, y.Seq, n)
			}
		}
	}
}

func TestNextOfTheLastSeq(t *testing.T) {
	for _, x := range kinds() {
		for _, seq := range []int{0, 1, top - 2, top - 1} {
			s := with(mixed(), func(s *api.State) { s.Seq = seq })
			lines(t, fmt.Sprint("Seq ", seq), s, x)
		}
		s := with(mixed(), func(s *api.State) { s.Seq = top })
		lays(t, "behind the last Seq", scan.Next(s, x), nil)
		x.Seq = 5
		lays(t, "behind the last Seq, of another one", scan.Next(s, x), nil)
	}
}

func TestNextOfBodies(t *testing.T) {
	for kind := range 7 {
		for _, n := range []int{0, 1, 31, 32, 33, sixBytes, api.MaxText - 1, api.MaxText, api.MaxText + 1} {
			if n > 1000 && kind%3 > 0 {
				continue
			}
			x := api.Rec{Kind: kind, Zone: 1, W: 1, Body: row(n, kind)}
			what := fmt.Sprint("kind ", kind, ", ", n, " bytes")
			if n > api.MaxText {
				lays(t, what, scan.Next(mixed(), x), nil)
			} else {
				lines(t, what, mixed(), x)
			}
		}
	}
	lays(t, "an empty Body", scan.Next(mixed(), api.Rec{Kind: 2, Body: []byte{}}), scan.Next(mixed(), api.Rec{Kind: 2}))
}

// TestNextOfNoRecords: of what is no record, nothing is laid.
func TestNextOfNoRecords(t *testing.T) {
	for _, n := range []int{least, -2, -1, 7, 8, 256, 1 << 32, greatest} {
		lays(t, fmt.Sprint("kind ", n), scan.Next(mixed(), api.Rec{Kind: n}), nil)
	}
	for name, set := range map[string]func(x *api.Rec, n int){
		"Zone":   func(x *api.Rec, n int) { x.Zone = n },
		"Gen":    func(x *api.Rec, n int) { x.Gen = n },
		"Slot":   func(x *api.Rec, n int) { x.Slot = n },
		"W":      func(x *api.Rec, n int) { x.W = n },
		"Member": func(x *api.Rec, n int) { x.Member = n },
		"Status": func(x *api.Rec, n int) { x.Status = n },
	} {
		for _, n := range []int{least, -2, top + 1, greatest} {
			for kind := range 7 {
				x := api.Rec{Kind: kind}
				set(&x, n)
				lays(t, fmt.Sprint(name, " ", n), scan.Next(mixed(), x), nil)
			}
		}
	}
}
