package state_test

import (
	"bytes"
	"fmt"
	"slices"
	"testing"

	"revetment/api"
	"revetment/conf"
	"revetment/sample"
	"revetment/state"
)

// P11.2

// applies checks that x makes want of s, but for Seq, and leaves s as it was.
func applies(t *testing.T, what string, s api.State, x api.Rec, want api.State) {
	t.Helper()
	was := twin(s)
	want.Seq = s.Seq + 1
	u, e := state.Apply(s, x)
	if e != api.OK {
		t.Errorf("%s: error %d", what, int(e))
	}
	same(t, what, u, want)
	same(t, what+": what was handed in", s, was)
	right(t, what, u, true)
	if by, ok := behind(s, x); !ok || !alike(by, want) {
		t.Errorf("%s: the document's words do not say so", what)
	}
}

// refused checks that x is answered with that error, and s stays as it was.
func refused(t *testing.T, what string, s api.State, x api.Rec, want api.Errno) {
	t.Helper()
	was := twin(s)
	u, e := state.Apply(s, x)
	if e != want {
		t.Errorf("%s: error %d, want %d", what, int(e), int(want))
	}
	same(t, what+": beside an error", u, api.State{})
	same(t, what+": what was handed in", s, was)
	if _, ok := behind(s, x); want == api.ErrForm && ok {
		t.Errorf("%s: the document's words do not refuse it", what)
	}
}

// next is x as the one behind s.
func next(s api.State, x api.Rec) api.Rec {
	x.Epoch, x.Seq = s.Epoch, s.Seq+1
	return x
}

// takes is applies, of x as the next one, with a change of its zone.
func takes(t *testing.T, what string, s api.State, x api.Rec, change func(z *api.Zone)) {
	t.Helper()
	applies(t, what, s, next(s, x), zoned(s, x.Zone, change))
}

// leaves is refused, of x as the next one, with ErrForm.
func leaves(t *testing.T, what string, s api.State, x api.Rec) {
	t.Helper()
	refused(t, what, s, next(s, x), api.ErrForm)
}

// bases are mixed, lost and calm, with whether a member is rebuilt.
func bases() map[*api.State]bool {
	a, b, c := mixed(), lost(), calm()
	return map[*api.State]bool{&a: true, &b: false, &c: false}
}

func TestMap(t *testing.T) {
	for p, rebuilds := range bases() {
		s := *p
		x := api.Rec{Kind: api.RecMap, Zone: 0, Gen: 3}
		for slot := -2; slot <= sixSlots+1; slot++ {
			x.Slot = slot
			if slices.Contains([]int{1, 3, 4, 6}, slot) {
				takes(t, fmt.Sprint("slot ", slot), s, x, func(z *api.Zone) { z.Slot, z.Whole = slot, rebuilds })
			} else {
				leaves(t, fmt.Sprint("slot ", slot), s, x)
			}
		}
		for _, slot := range []int{least, 1<<32 + 1, greatest} {
			x.Slot = slot
			leaves(t, fmt.Sprint("slot ", slot), s, x)
		}
		x.Slot = 3
		for _, gen := range []int{least, -3, -1, 0, 2, 4, top, greatest} {
			x.Gen = gen
			leaves(t, fmt.Sprint("Gen ", gen), s, x)
		}
		for zone := 1; zone < 6; zone++ {
			leaves(t, fmt.Sprint("zone ", zone), s, api.Rec{Kind: api.RecMap, Zone: zone, Gen: s.Zones[zone].Gen, Slot: 3})
		}
		own := api.Rec{Kind: api.RecMap, Zone: 1, Gen: top, Slot: 5}
		leaves(t, "the slot that it has", s, own)
		x.Gen = 3
		full := zoned(s, 0, func(z *api.Zone) { z.Full = true })
		leaves(t, "it is Full", full, x)
		high := zoned(s, 0, func(z *api.Zone) { z.Gen = top })
		x.Gen = top
		takes(t, "the greatest Gen", high, x, func(z *api.Zone) { z.Slot, z.Whole = 3, rebuilds })
	}
}

// TestMapOfAll: each zone may have each slot.
func TestMapOfAll(t *testing.T) {
	for zone := range 6 {
		for slot := range sixSlots {
			takes(t, "at the beginning", begun(six()), api.Rec{Kind: api.RecMap, Zone: zone, Slot: slot}, func(z *api.Zone) { z.Slot = slot })
		}
	}
}

func TestReset(t *testing.T) {
	for p := range bases() {
		s := *p
		for zone, was := range s.Zones {
			x := api.Rec{Kind: api.RecReset, Zone: zone, Gen: was.Gen + 1}
			what := fmt.Sprint("zone ", zone)
			if was.Gen < top {
				takes(t, what, s, x, func(z *api.Zone) { *z = api.Zone{Gen: was.Gen + 1, Slot: -1} })
			} else {
				leaves(t, what+" has the greatest Gen", s, x)
			}
			for _, gen := range []int{least, -1, 0, was.Gen - 1, was.Gen, was.Gen + 2, top + 1, greatest} {
				if x.Gen = gen; gen != was.Gen+1 {
					leaves(t, fmt.Sprint(what, ", Gen ", gen), s, x)
				}
			}
		}
		near := zoned(s, 1, func(z *api.Zone) { z.Gen = top - 1 })
		takes(t, "the greatest Gen", near, api.Rec{Kind: api.RecReset, Zone: 1, Gen: top}, func(z *api.Zone) { *z = api.Zone{Gen: top, Slot: -1} })
	}
}

func TestFinish(t *testing.T) {
	for p := range bases() {
		s := *p
		for _, w := range []int{least, -1, 0, 1, sixSize - 1, sixSize, sixSize + 1, greatest} {
			for _, zone := range []int{0, 1, 4} {
				x := api.Rec{Kind: api.RecFinish, Zone: zone, W: w}
				what := fmt.Sprint("zone ", zone, ", W ", w)
				if w == 0 || zone != 0 && w > 0 && w <= sixSize {
					takes(t, what, s, x, func(z *api.Zone) { z.Full, z.W = true, w })
				} else {
					leaves(t, what, s, x)
				}
			}
			for _, zone := range []int{2, 3, 5} {
				leaves(t, fmt.Sprint("zone ", zone, " is Full, W ", w), s, api.Rec{Kind: api.RecFinish, Zone: zone, W: w})
			}
		}
	}
}

func TestParity(t *testing.T) {
	for p := range bases() {
		s := *p
		for _, w := range []int{least, -1, 0, 1, 2, sixSize - 1, sixSize, sixSize + 1, greatest} {
			for zone := range 6 {
				x := api.Rec{Kind: api.RecParity, Zone: zone, Gen: s.Zones[zone].Gen, W: w, Body: row(sixBytes, 9)}
				what := fmt.Sprint("zone ", zone, ", W ", w)
				if w < 1 || w > sixSize || zone != 1 && zone != 4 {
					leaves(t, what, s, x)
				} else {
					takes(t, what, s, x, func(z *api.Zone) {
						z.Pars = append(z.Pars[len(z.Pars)/2:], api.Par{W: w, B: row(sixBytes, 9)})
					})
				}
			}
		}
		x := api.Rec{Kind: api.RecParity, Zone: 4, Gen: 0, W: 1}
		for _, n := range []int{0, 1, 64, sixBytes - 1, sixBytes, sixBytes + 1, 2 * sixBytes, api.MaxText + 1} {
			x.Body = row(n, 3)
			if n == sixBytes {
				takes(t, "Body", s, x, func(z *api.Zone) { z.Pars = []api.Par{{W: 1, B: row(n, 3)}} })
			} else {
				leaves(t, fmt.Sprint("Body of ", n), s, x)
			}
		}
		x.Body = row(sixBytes, 3)
		for _, gen := range []int{least, -1, 1, top, greatest} {
			x.Gen = gen
			leaves(t, fmt.Sprint("Gen ", gen), s, x)
		}
		full := zoned(s, 4, func(z *api.Zone) { z.Full = true })
		x.Gen = 0
		leaves(t, "it is Full", full, x)
	}
}

// TestParitiesInARow: the last two stay, whatever they are over.
func TestParitiesInARow(t *testing.T) {
	for _, c := range []api.Conf{six(), conf.Plain(), sample.Small()} {
		s := zoned(begun(c), 0, func(z *api.Zone) { z.Slot = 1 })
		var all []api.Par
		for i := range 9 {
			p := api.Par{W: 1 + (i*5+3)%conf.Size(c)%4, B: row(c.Unit*c.Block, i/2)}
			all = append(all, p)
			x := next(s, api.Rec{Kind: api.RecParity, W: p.W, Body: p.B})
			want := zoned(s, 0, func(z *api.Zone) { z.Pars = all[max(0, len(all)-2):] })
			applies(t, fmt.Sprint("parity ", i), s, x, want)
			s, _ = state.Apply(s, x)
		}
	}
}

func TestWhole(t *testing.T) {
	for p, rebuilds := range bases() {
		s := *p
		for zone, was := range s.Zones {
			x := api.Rec{Kind: api.RecWhole, Zone: zone}
			what := fmt.Sprint("zone ", zone)
			if rebuilds && was.Slot >= 0 {
				takes(t, what, s, x, func(z *api.Zone) { z.Whole = true })
			} else {
				leaves(t, what, s, x)
			}
		}
	}
}

func TestStatus(t *testing.T) {
	for p := range bases() {
		s := *p
		some := []int{least, -1, 0, 1, 2, 3, greatest}
		for _, m := range []int{least, -1, 0, 1, 2, 3, 4, 5, greatest} {
			for _, n := range some {
				x := next(s, api.Rec{Kind: api.RecStatus, Member: m, Status: n})
				what := fmt.Sprint("member ", m, ", Status ", n, " of ", s.Status)
				if m < 0 || m > 3 || n < 0 || n > 2 || s.Status[2] != 0 && m != 2 {
					refused(t, what, s, x, api.ErrForm)
					continue
				}
				applies(t, what, s, x, with(s, func(s *api.State) {
					s.Status[m] = n
					for i := range s.Zones {
						s.Zones[i].Whole = false
					}
				}))
			}
		}
	}
}

// followers are records of all kinds that follow mixed.
func followers() []api.Rec {
	s := mixed()
	l := []api.Rec{
		{Kind: api.RecMap, Zone: 0, Gen: 3, Slot: 4},
		{Kind: api.RecReset, Zone: 5, Gen: 1},
		{Kind: api.RecReset, Zone: 0, Gen: 4},
		{Kind: api.RecFinish, Zone: 0, W: 0},
		{Kind: api.RecFinish, Zone: 1, W: 44},
		{Kind: api.RecParity, Zone: 1, Gen: top, W: 3, Body: row(sixBytes, 4)},
		{Kind: api.RecParity, Zone: 4, Gen: 0, W: 3, Body: row(sixBytes, 4)},
		{Kind: api.RecWhole, Zone: 2},
		{Kind: api.RecStatus, Member: 2, Status: 0},
		{Kind: api.RecStatus, Member: 2, Status: 1},
	}
	for i := range l {
		l[i] = next(s, l[i])
	}
	return l
}

func TestKindsThatNeverFollow(t *testing.T) {
	for _, x := range followers() {
		for _, kind := range []int{least, -2, -1, api.RecCheck, 7, 8, 256 + x.Kind, 1<<32 + x.Kind, greatest} {
			x.Kind = kind
			refused(t, fmt.Sprint("kind ", kind), mixed(), x, api.ErrForm)
		}
	}
	s := mixed()
	x := api.Rec{Kind: api.RecCheck, Epoch: s.Epoch, Seq: s.Seq, Body: state.Put(s)}
	refused(t, "its own checkpoint", s, x, api.ErrForm)
	x.Seq++
	refused(t, "a checkpoint behind it", s, x, api.ErrForm)
}

func TestEpochAndSeqOfRecords(t *testing.T) {
	s := mixed()
	for _, was := range followers() {
		for _, n := range []int{least, -1, 0, 1, s.Epoch - 1, s.Epoch + 1, top, greatest} {
			x := was
			x.Epoch = n
			refused(t, fmt.Sprint("Epoch ", n, " of kind ", x.Kind), s, x, api.ErrForm)
		}
		for _, n := range []int{least, -1, 0, 1, s.Seq - 1, s.Seq, s.Seq + 2, s.Seq + 3, top, greatest} {
			x := was
			x.Seq = n
			refused(t, fmt.Sprint("Seq ", n, " of kind ", x.Kind), s, x, api.ErrForm)
		}
	}
}

// TestTheLastSeq: at most 2^40 come.
func TestTheLastSeq(t *testing.T) {
	for _, was := range followers() {
		s := mixed()
		s.Epoch, s.Seq = top, top-1
		x := next(s, was)
		u, e := state.Apply(s, x)
		if e != api.OK || u.Seq != top || u.Epoch != top || !state.Right(u) {
			t.Errorf("kind %d: error %d, Seq %d", x.Kind, int(e), u.Seq)
		}
		s.Seq = top
		for _, n := range []int{0, 1, top - 1, top, top + 1, top + 2} {
			x.Seq = n
			refused(t, fmt.Sprint("Seq ", n, " behind the last one, kind ", x.Kind), s, x, api.ErrForm)
		}
		s.Seq = 0
		x.Seq = 1
		if u, e := state.Apply(s, x); e != api.OK || u.Seq != 1 {
			t.Errorf("kind %d: error %d, Seq %d", x.Kind, int(e), u.Seq)
		}
	}
}

// TestZonesOfRecords: of zones that there are not there is no record, but of
// the kind that has none.
func TestZonesOfRecords(t *testing.T) {
	s := mixed()
	for _, x := range followers() {
		want, _ := state.Apply(s, x)
		for _, n := range []int{least, -6, -1, 6, 7, 1 << 32, greatest} {
			x.Zone = n
			if x.Kind == api.RecStatus {
				applies(t, fmt.Sprint("Status, zone ", n), s, x, want)
			} else {
				refused(t, fmt.Sprint("zone ", n, " of kind ", x.Kind), s, x, api.ErrForm)
			}
		}
	}
	for _, zone := range []int{0, 5} {
		takes(t, "the first one, and the last", begun(six()), api.Rec{Kind: api.RecMap, Zone: zone, Slot: 1}, func(z *api.Zone) { z.Slot = 1 })
	}
}

// TestWhatIsNotNamed plays no part.
func TestWhatIsNotNamed(t *testing.T) {
	fields := map[string]func(x *api.Rec, n int){
		"Zone":   func(x *api.Rec, n int) { x.Zone = n },
		"Gen":    func(x *api.Rec, n int) { x.Gen = n },
		"Slot":   func(x *api.Rec, n int) { x.Slot = n },
		"W":      func(x *api.Rec, n int) { x.W = n },
		"Member": func(x *api.Rec, n int) { x.Member = n },
		"Status": func(x *api.Rec, n int) { x.Status = n },
		"Body":   func(x *api.Rec, n int) { x.Body = row(n&511, n) },
	}
	named := map[int][]string{
		api.RecMap:    {"Zone", "Gen", "Slot"},
		api.RecReset:  {"Zone", "Gen"},
		api.RecFinish: {"Zone", "W"},
		api.RecParity: {"Zone", "Gen", "W", "Body"},
		api.RecWhole:  {"Zone"},
		api.RecStatus: {"Member", "Status"},
	}
	s := mixed()
	for _, was := range followers() {
		want, e := state.Apply(s, was)
		if e != api.OK {
			t.Errorf("kind %d: error %d", was.Kind, int(e))
		}
		all := was
		for name, set := range fields {
			if slices.Contains(named[was.Kind], name) {
				continue
			}
			for _, n := range []int{least, -2, -1, 0, 1, 3, 5, 6, sixBytes, sixSize + 1, top + 1, greatest} {
				x := was
				set(&x, n)
				applies(t, fmt.Sprint("kind ", x.Kind, ", ", name, " ", n), s, x, want)
			}
			set(&all, greatest-7)
		}
		applies(t, fmt.Sprint("kind ", was.Kind, ", all at once"), s, all, want)
	}
}

// TestApplyOfWrongStates: ErrArg, whatever the record is.
func TestApplyOfWrongStates(t *testing.T) {
	for _, w := range wrongs() {
		for _, x := range append(followers(), api.Rec{}, api.Rec{Kind: -1}) {
			refused(t, w.what, w.s, x, api.ErrArg)
			refused(t, w.what, w.s, next(w.s, x), api.ErrArg)
		}
	}
	refused(t, "nothing", api.State{}, api.Rec{}, api.ErrArg)
	refused(t, "nothing", api.State{}, api.Rec{Kind: api.RecStatus, Seq: 1}, api.ErrArg)
	for _, c := range sample.Refused() {
		refused(t, sprint(c), api.State{Conf: c, Epoch: 1}, api.Rec{Kind: api.RecStatus, Epoch: 1, Seq: 1}, api.ErrArg)
	}
}

// TestApplyOfGreatest: the greatest parities that may be.
func TestApplyOfGreatest(t *testing.T) {
	c := sample.Great()
	s := zoned(begun(c), 59, func(z *api.Zone) { z.Slot = 60 })
	body := bytes.Repeat([]byte{7}, c.Unit*c.Block)
	x := api.Rec{Kind: api.RecParity, Zone: 59, W: conf.Size(c), Body: body}
	takes(t, "the greatest", s, x, func(z *api.Zone) { z.Pars = []api.Par{{W: conf.Size(c), B: body}} })
	x.W++
	leaves(t, "a block more", s, x)
	x.W, x.Body = 1, body[1:]
	leaves(t, "a byte less", s, x)
}

// proposed is a record that may follow s, or lacks not much of it.
func proposed(d *dice, s api.State) api.Rec {
	c := s.Conf
	x := api.Rec{
		Kind:   d.of(1, 1, 2, 3, 4, 4, 5, 6),
		Zone:   d.below(len(s.Zones)),
		Slot:   d.below(conf.Slots(c)),
		W:      d.below(conf.Size(c) + 1),
		Member: d.below(len(s.Status)),
		Status: d.below(3),
		Body:   row(c.Unit*c.Block, d.below(1000)),
	}
	x.Gen = s.Zones[x.Zone].Gen
	if x.Kind == api.RecReset {
		x.Gen++
	}
	if m, _, odd := state.Odd(s); odd && d.below(4) > 0 {
		x.Member = m
	}
	if s.Zones[x.Zone].Slot < 0 && d.below(2) == 0 {
		x.W = 0
	}
	x = next(s, x)
	if d.below(4) > 0 {
		return x
	}
	switch d.below(9) {
	case 0:
		x.Kind = d.of(-1, 0, 7)
	case 1:
		x.Epoch += d.of(-1, 1)
	case 2:
		x.Seq += d.of(-1, 1)
	case 3:
		x.Zone = d.of(-1, len(s.Zones))
	case 4:
		x.Gen += d.of(-1, 1)
	case 5:
		x.Slot = d.of(-1, conf.Slots(c))
	case 6:
		x.W = d.of(-1, 0, conf.Size(c)+1)
	case 7:
		x.Member, x.Status = d.of(-1, 0, len(s.Status)), d.of(-1, 0, 3)
	case 8:
		x.Body = x.Body[1:]
	}
	return x
}

// P11.2 and P11.5

// sound checks what P11.5 says of s.
func sound(t *testing.T, what string, s api.State) {
	t.Helper()
	right(t, what, s, true)
	without := 0
	for _, z := range s.Zones {
		if z.Slot == -1 {
			without++
		}
	}
	free := state.Free(s)
	if len(free) != without+s.Conf.Spare || !slices.IsSorted(free) {
		t.Errorf("%s: %d zones have no slot, free are %d", what, without, free)
	}
	for i, slot := range free {
		if slot < 0 || slot >= conf.Slots(s.Conf) || i > 0 && free[i-1] == slot || slices.ContainsFunc(s.Zones, func(z api.Zone) bool { return z.Slot == slot }) {
			t.Errorf("%s: slot %d is not free", what, slot)
		}
	}
	u, e := state.Get(state.Put(s))
	if e != api.OK || !state.Same(u, s) {
		t.Errorf("%s: put and got, error %d", what, int(e))
	}
	same(t, what+": put and got", u, s)
}

// TestLongRows: along long rows of records each answer is what the document's
// words say, and each state is sound.
func TestLongRows(t *testing.T) {
	var kinds [7]int
	var errors [18]int
	for i, c := range []api.Conf{six(), conf.Plain(), sample.Small(), sample.Listed(1, 5, 3, 100, 999, 10, 40, 14, 1, 10, 64), sample.Listed(0, 16, 1, 8, 900, 60, 1, 3, 1, 1, 64)} {
		d := dice(i)
		s, e := state.New(c)
		if e != api.OK {
			t.Fatalf("%+v: error %d", c, int(e))
		}
		for n := range 4000 / (1 + c.Unit*c.Block/1000) {
			what := fmt.Sprintf("settings %d, record %d", i, n)
			x := proposed(&d, s)
			want, ok := behind(s, x)
			if !ok {
				errors[api.ErrForm]++
				refused(t, what, s, x, api.ErrForm)
				continue
			}
			kinds[x.Kind]++
			u, e := state.Apply(s, x)
			errors[e]++
			same(t, what, u, want)
			if s = u; n%10 == 0 {
				sound(t, what, s)
			} else {
				right(t, what, s, true)
			}
			if t.Failed() {
				t.Fatalf("%s: %+v", what, x.Kind)
			}
		}
	}
	if errors[api.OK] < 2000 || errors[api.ErrForm] < 2000 || slices.Min(kinds[1:]) < 100 {
		t.Errorf("errors %d, kinds %d", errors, kinds)
	}
}

// TestAllZonesOnce: all zones get slots, lose them, and get others; there are
// always spare ones.
func TestAllZonesOnce(t *testing.T) {
	for _, c := range append(sample.Good(), six()) {
		s := begun(c)
		for round := range 3 {
			for zone := range s.Zones {
				free := state.Free(s)
				x := api.Rec{Kind: api.RecMap, Zone: zone, Gen: round, Slot: free[(zone*7+round)%len(free)]}
				takes(t, "a slot", s, x, func(z *api.Zone) { z.Slot = x.Slot })
				s, _ = state.Apply(s, next(s, x))
				sound(t, "behind a slot", s)
			}
			if len(state.Free(s)) != c.Spare {
				t.Errorf("%+v: free are %d", c, state.Free(s))
			}
			for zone := range s.Zones {
				s, _ = state.Apply(s, next(s, api.Rec{Kind: api.RecReset, Zone: zone, Gen: round + 1}))
				sound(t, "behind a reset", s)
			}
		}
	}
}
