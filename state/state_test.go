package state_test

import (
	"fmt"
	"slices"
	"testing"

	"revetment/api"
	"revetment/conf"
	"revetment/sample"
	"revetment/state"
)

// P11.1: New

func TestExample(t *testing.T) {
	s, e := state.New(conf.Plain())
	if e != api.OK || !slices.Equal(state.Free(s), []int{0, 1, 2, 3}) {
		t.Errorf("New of Plain: error %d, free %d", int(e), state.Free(s))
	}
}

// TestNewByHand: of Plain, all parts written out.
func TestNewByHand(t *testing.T) {
	s, e := state.New(conf.Plain())
	same(t, "New of Plain", s, api.State{
		Conf:   api.Conf{ID: 7, Members: 4, Unit: 2, Block: 64, Cap: 24, Zones: 3, Spare: 1, Meta: 3, Open: 2, Active: 3, Limit: 7},
		Epoch:  1,
		Seq:    0,
		Status: []int{0, 0, 0, 0},
		Zones:  []api.Zone{{Gen: 0, Slot: -1}, {Gen: 0, Slot: -1}, {Gen: 0, Slot: -1}},
	})
	if e != api.OK {
		t.Errorf("New of Plain: error %d", int(e))
	}
}

func TestNewOfSettings(t *testing.T) {
	for _, c := range append(sample.Good(), six()) {
		s, e := state.New(c)
		if e != api.OK {
			t.Errorf("%+v: error %d", c, int(e))
		}
		same(t, sprint(c), s, begun(c))
		right(t, sprint(c), s, true)
	}
}

func TestNewRefuses(t *testing.T) {
	for want, some := range map[api.Errno][]api.Conf{api.ErrArg: sample.Argued(), api.ErrSpace: sample.Tight()} {
		for _, c := range some {
			s, e := state.New(c)
			if e != want {
				t.Errorf("%+v: error %d, want %d", c, int(e), int(want))
			}
			same(t, sprint(c), s, api.State{})
		}
	}
}

// P11.3: Same and Clone

func isSame(t *testing.T, what string, a, b api.State, want bool) {
	t.Helper()
	if state.Same(a, b) != want || state.Same(b, a) != want {
		t.Errorf("%s: Same is not %t", what, want)
	}
}

func TestSameOfSome(t *testing.T) {
	all := append(rights(), api.State{})
	for _, w := range wrongs() {
		all = append(all, w.s)
	}
	for i, a := range all {
		for j, b := range all {
			isSame(t, fmt.Sprint(i, " and ", j), a, twin(b), alike(a, b))
		}
	}
}

// changes are changes of one part each, right or not.
func changes() map[string]func(s *api.State) {
	return map[string]func(s *api.State){
		"ID":             func(s *api.State) { s.Conf.ID++ },
		"Members":        func(s *api.State) { s.Conf.Members++ },
		"Unit":           func(s *api.State) { s.Conf.Unit++ },
		"Block":          func(s *api.State) { s.Conf.Block++ },
		"Cap":            func(s *api.State) { s.Conf.Cap++ },
		"Zones":          func(s *api.State) { s.Conf.Zones++ },
		"Spare":          func(s *api.State) { s.Conf.Spare++ },
		"Meta":           func(s *api.State) { s.Conf.Meta++ },
		"Open":           func(s *api.State) { s.Conf.Open++ },
		"Active":         func(s *api.State) { s.Conf.Active++ },
		"Limit":          func(s *api.State) { s.Conf.Limit++ },
		"Epoch":          func(s *api.State) { s.Epoch-- },
		"Seq":            func(s *api.State) { s.Seq++ },
		"first Status":   func(s *api.State) { s.Status[0]++ },
		"last Status":    func(s *api.State) { s.Status[3] = 3 },
		"no Status":      func(s *api.State) { s.Status = nil },
		"less Status":    func(s *api.State) { s.Status = s.Status[:3] },
		"more Status":    func(s *api.State) { s.Status = append(s.Status, 0) },
		"turned Status":  func(s *api.State) { slices.Reverse(s.Status) },
		"no zones":       func(s *api.State) { s.Zones = nil },
		"less zones":     func(s *api.State) { s.Zones = s.Zones[:5] },
		"more zones":     func(s *api.State) { s.Zones = append(s.Zones, api.Zone{}) },
		"turned zones":   func(s *api.State) { slices.Reverse(s.Zones) },
		"first Gen":      func(s *api.State) { s.Zones[0].Gen++ },
		"Gen":            func(s *api.State) { s.Zones[1].Gen-- },
		"last Gen":       func(s *api.State) { s.Zones[5].Gen++ },
		"Slot":           func(s *api.State) { s.Zones[1].Slot++ },
		"no Slot":        func(s *api.State) { s.Zones[5].Slot = -1 },
		"Full":           func(s *api.State) { s.Zones[1].Full = true },
		"not Full":       func(s *api.State) { s.Zones[5].Full = false },
		"W":              func(s *api.State) { s.Zones[1].W++ },
		"no W":           func(s *api.State) { s.Zones[2].W = 0 },
		"Whole":          func(s *api.State) { s.Zones[2].Whole = true },
		"not Whole":      func(s *api.State) { s.Zones[5].Whole = false },
		"no Pars":        func(s *api.State) { s.Zones[1].Pars = nil },
		"less Pars":      func(s *api.State) { s.Zones[1].Pars = s.Zones[1].Pars[:1] },
		"more Pars":      func(s *api.State) { s.Zones[1].Pars = append(s.Zones[1].Pars, par(7, 1)) },
		"a Par":          func(s *api.State) { s.Zones[4].Pars = []api.Par{par(7, 1)} },
		"turned Pars":    func(s *api.State) { slices.Reverse(s.Zones[1].Pars) },
		"first Par's W":  func(s *api.State) { s.Zones[1].Pars[0].W++ },
		"second Par's W": func(s *api.State) { s.Zones[1].Pars[1].W-- },
		"B's first byte": func(s *api.State) { s.Zones[1].Pars[0].B[0]++ },
		"B's last byte":  func(s *api.State) { s.Zones[1].Pars[1].B[sixBytes-1]++ },
		"B a byte less":  func(s *api.State) { s.Zones[2].Pars[0].B = s.Zones[2].Pars[0].B[:sixBytes-1] },
		"B a byte more":  func(s *api.State) { s.Zones[2].Pars[0].B = append(s.Zones[2].Pars[0].B, 0) },
		"no B":           func(s *api.State) { s.Zones[2].Pars[0].B = nil },
	}
}

// TestSameOfEachPart: each part alone tells two states apart, be they right or
// not, and no part stands for another one.
func TestSameOfEachPart(t *testing.T) {
	some := changes()
	for one, change := range some {
		a := with(mixed(), change)
		isSame(t, one+", and as it was", a, mixed(), false)
		isSame(t, one+", twice", a, with(mixed(), change), true)
		for other, change := range some {
			if b := with(mixed(), change); one != other {
				isSame(t, one+" and "+other, a, b, alike(a, b))
			}
		}
	}
}

// emptied is s with empty lists for nil ones.
func emptied(s api.State) api.State {
	return with(s, func(s *api.State) {
		s.Status = append([]int{}, s.Status...)
		s.Zones = append([]api.Zone{}, s.Zones...)
		for i := range s.Zones {
			z := &s.Zones[i]
			z.Pars = append([]api.Par{}, z.Pars...)
			for j := range z.Pars {
				z.Pars[j].B = append([]byte{}, z.Pars[j].B...)
			}
		}
	})
}

// TestNilAndEmptyAreAlike: in all that state is handed.
func TestNilAndEmptyAreAlike(t *testing.T) {
	bodiless := zoned(mixed(), 1, func(z *api.Zone) { z.Pars[0].B = nil })
	for i, s := range append(rights(), api.State{}, bodiless) {
		what := fmt.Sprint("state ", i)
		empty := emptied(s)
		isSame(t, what, s, empty, true)
		isSame(t, what, twin(s), empty, true)
		same(t, what+", Clone", state.Clone(empty), s)
		if state.Right(empty) != state.Right(s) || !slices.Equal(state.Put(empty), state.Put(s)) || !slices.Equal(state.Free(empty), state.Free(s)) {
			t.Errorf("%s: with empty lists it is another one", what)
		}
		x := api.Rec{Kind: api.RecReset, Epoch: s.Epoch, Seq: s.Seq + 1, Zone: 0, Gen: 4}
		a, e := state.Apply(s, x)
		b, f := state.Apply(empty, x)
		same(t, what+", Apply", a, b)
		if e != f {
			t.Errorf("%s: Apply tells %d and %d", what, int(e), int(f))
		}
	}
	s := calm()
	for _, body := range [][]byte{nil, {}} {
		refused(t, "no Body", s, api.Rec{Kind: api.RecParity, Epoch: s.Epoch, Seq: 7, Zone: 4, W: 1, Body: body}, api.ErrForm)
		applies(t, "no Body", s, api.Rec{Kind: api.RecFinish, Epoch: s.Epoch, Seq: 7, Zone: 4, W: 1, Body: body}, zoned(s, 4, func(z *api.Zone) { z.Full, z.W = true, 1 }))
	}
}

func TestCloneIsTheSame(t *testing.T) {
	for i, s := range append(rights(), api.State{}) {
		same(t, fmt.Sprint("state ", i), state.Clone(s), s)
	}
	for _, w := range wrongs() {
		same(t, w.what, state.Clone(w.s), w.s)
	}
	for what, change := range changes() {
		same(t, what, state.Clone(with(mixed(), change)), with(mixed(), change))
	}
}

// P11.4

func frees(t *testing.T, what string, s api.State, want ...int) {
	t.Helper()
	if got := state.Free(s); !slices.Equal(got, want) {
		t.Errorf("%s: Free is %d, want %d", what, got, want)
	}
}

func TestFree(t *testing.T) {
	frees(t, "mixed", mixed(), 1, 3, 4, 6)
	frees(t, "at the beginning", begun(six()), 0, 1, 2, 3, 4, 5, 6, 7)
	frees(t, "all zones have one", utmost(six()), 0, 1)
	frees(t, "all zones of Plain have one", utmost(conf.Plain()), 0)
	frees(t, "one zone has the first", zoned(begun(six()), 5, func(z *api.Zone) { z.Slot = 0 }), 1, 2, 3, 4, 5, 6, 7)
	frees(t, "one zone has the last", zoned(begun(six()), 0, func(z *api.Zone) { z.Slot = 7 }), 0, 1, 2, 3, 4, 5, 6)
	frees(t, "the least settings", begun(sample.Small()), 0, 1)
}

// TestFreeOfOthers: of states that are not right, as the words say, too.
func TestFreeOfOthers(t *testing.T) {
	frees(t, "nothing", api.State{})
	frees(t, "no zones", with(mixed(), func(s *api.State) { s.Zones = nil }), 0, 1, 2, 3, 4, 5, 6, 7)
	frees(t, "two zones with one slot", zoned(mixed(), 5, func(z *api.Zone) { z.Slot = 0 }), 1, 2, 3, 4, 6)
	for _, n := range []int{least, -3, -2, 8, 9, 1 << 32, greatest} {
		frees(t, fmt.Sprint("a slot ", n), zoned(mixed(), 5, func(z *api.Zone) { z.Slot = n }), 1, 2, 3, 4, 6)
	}
	frees(t, "settings of which nothing follows", with(mixed(), func(s *api.State) { s.Conf.Open = 0 }))
	frees(t, "settings that are refused", with(mixed(), func(s *api.State) { s.Conf.Open, s.Conf.Members = 6, 2 }), 1, 3, 4, 6)
	frees(t, "more slots than may be", with(mixed(), func(s *api.State) { s.Conf.Spare = 4 }), 1, 3, 4, 6, 8, 9)
	full := with(mixed(), func(s *api.State) { s.Zones = nil })
	for n := range sixSlots {
		full.Zones = append(full.Zones, api.Zone{Slot: sixSlots - 1 - n})
	}
	frees(t, "none is free", full)
	far := begun(six())
	far.Conf.Zones, far.Conf.Spare = 1<<20, 1<<20
	far.Zones[3].Slot = 1<<21 - 2
	if l := state.Free(far); len(l) != 1<<21-1 || l[1<<21-3] != 1<<21-3 || l[1<<21-2] != 1<<21-1 {
		t.Errorf("of very many slots %d are free", len(l))
	}
}

func odds(t *testing.T, what string, s api.State, m, status int, ok bool) {
	t.Helper()
	if a, b, is := state.Odd(s); a != m || b != status || is != ok {
		t.Errorf("%s: Odd is %d, %d, %t; want %d, %d, %t", what, a, b, is, m, status, ok)
	}
}

func TestOdd(t *testing.T) {
	odds(t, "all are whole", calm(), 0, 0, false)
	odds(t, "nothing", api.State{}, 0, 0, false)
	odds(t, "empty", api.State{Status: []int{}}, 0, 0, false)
	odds(t, "one is rebuilt", mixed(), 2, 2, true)
	odds(t, "one is lost", lost(), 2, 1, true)
	for m := range 4 {
		for _, n := range []int{1, 2, 3, -1, least, greatest} {
			s := with(calm(), func(s *api.State) { s.Status[m] = n })
			odds(t, fmt.Sprint("member ", m, " is ", n), s, m, n, true)
			for other := m + 1; other < 4; other++ {
				odds(t, fmt.Sprint(m, " and ", other), with(s, func(s *api.State) { s.Status[other] = 1 }), m, n, true)
				odds(t, fmt.Sprint(m, " and ", other), with(s, func(s *api.State) { s.Status[other] = 5 }), m, n, true)
			}
		}
	}
	odds(t, "no more but Status", api.State{Status: []int{0, 0, 0, 0, 0, 0, 0, 0, 0, 1}}, 9, 1, true)
}
