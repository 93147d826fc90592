package state_test

import (
	"fmt"
	"slices"
	"testing"

	"revetment/api"
	"revetment/conf"
	"revetment/sample"
	"revetment/state"
)

// P11.1: Right

// wrong is a state that is not right, in one way. It is torn, if its lists are
// of other lengths than its settings say, so that what is laid of it is no
// whole state.
type wrong struct {
	what string
	s    api.State
	torn bool
}

// wrongs are states that are not right, each in one way.
func wrongs() []wrong {
	var l []wrong
	add := func(what string, s api.State, change func(s *api.State)) {
		l = append(l, wrong{what: what, s: with(s, change)})
	}
	zone := func(what string, i int, change func(z *api.Zone)) {
		l = append(l, wrong{what: what, s: zoned(mixed(), i, change)})
	}
	for _, n := range []int{least, -1, 0, top + 1, greatest} {
		add(fmt.Sprint("Epoch ", n), mixed(), func(s *api.State) { s.Epoch = n })
	}
	for _, n := range []int{least, -1, top + 1, greatest} {
		add(fmt.Sprint("Seq ", n), mixed(), func(s *api.State) { s.Seq = n })
		for i := range 6 {
			zone(fmt.Sprint("Gen ", n, " of zone ", i), i, func(z *api.Zone) { z.Gen = n })
		}
	}
	for _, n := range []int{least, -1, 3, 4, greatest} {
		for m := range 4 {
			add(fmt.Sprint("Status ", n, " of member ", m), calm(), func(s *api.State) { s.Status[m] = n })
		}
	}
	for _, n := range []int{least, -2, sixSlots, sixSlots + 1, greatest} {
		for i := range 6 {
			zone(fmt.Sprint("Slot ", n, " of zone ", i), i, func(z *api.Zone) { z.Slot = n })
		}
	}
	for i := range 6 {
		for _, n := range []int{least, -1, sixSize + 1, greatest} {
			zone(fmt.Sprint("W ", n, " of zone ", i), i, func(z *api.Zone) { z.W = n })
		}
	}
	l = append(l, wrongParts()...)
	return append(l, wrongTogether()...)
}

// wrongParts are states in which what a zone may have hangs on what else it is.
func wrongParts() []wrong {
	var l []wrong
	zone := func(what string, i int, change func(z *api.Zone)) {
		l = append(l, wrong{what: what, s: zoned(mixed(), i, change)})
	}
	for _, n := range []int{1, sixSize} {
		zone("W without a slot", 0, func(z *api.Zone) { z.W = n })
		zone("W without a slot, Full", 3, func(z *api.Zone) { z.W = n })
		zone("W, not Full", 1, func(z *api.Zone) { z.W = n })
		zone("W, not Full", 4, func(z *api.Zone) { z.W = n })
	}
	zone("Whole without a slot", 0, func(z *api.Zone) { z.Whole = true })
	zone("Whole without a slot, Full", 3, func(z *api.Zone) { z.Whole = true })
	zone("a Par without a slot", 0, func(z *api.Zone) { z.Pars = []api.Par{par(1, 1)} })
	zone("a Par without a slot, Full", 3, func(z *api.Zone) { z.Pars = []api.Par{par(1, 1)} })
	zone("two Pars without a slot", 0, func(z *api.Zone) { z.Pars = []api.Par{par(1, 1), par(2, 2)} })
	zone("three Pars", 1, func(z *api.Zone) { z.Pars = append(z.Pars, par(3, 3)) })
	zone("three Pars of a Full one", 2, func(z *api.Zone) { z.Pars = append(z.Pars, par(3, 3), par(4, 4)) })
	zone("four Pars", 1, func(z *api.Zone) { z.Pars = append(z.Pars, z.Pars...) })
	for i := range 2 {
		for _, n := range []int{least, -1, 0, sixSize + 1, greatest} {
			zone(fmt.Sprint("W ", n, " of Par ", i), 1, func(z *api.Zone) { z.Pars[i].W = n })
		}
		for _, n := range []int{0, 1, sixBytes - 1, sixBytes + 1, 2 * sixBytes} {
			zone(fmt.Sprint(n, " bytes of Par ", i), 1, func(z *api.Zone) { z.Pars[i].B = row(n, 5) })
		}
	}
	zone("a Par of nothing", 4, func(z *api.Zone) { z.Pars = []api.Par{{}} })
	return l
}

// wrongTogether are states in which each part alone may be.
func wrongTogether() []wrong {
	var l []wrong
	add := func(what string, s api.State, torn bool, change func(s *api.State)) {
		l = append(l, wrong{what, with(s, change), torn})
	}
	for one := range 4 {
		for other := range one {
			for i := range 4 {
				add(fmt.Sprint("members ", other, " and ", one), calm(), false, func(s *api.State) {
					s.Status[other], s.Status[one] = 1+i/2, 1+i%2
				})
			}
		}
	}
	add("all members are lost", calm(), false, func(s *api.State) { s.Status = []int{1, 1, 1, 1} })
	for one := range 6 {
		for other := range one {
			for _, slot := range []int{0, 6, 7} {
				add(fmt.Sprint("zones ", other, " and ", one, " have slot ", slot), begun(six()), false, func(s *api.State) {
					s.Zones[one].Slot, s.Zones[other].Slot = slot, slot
				})
			}
		}
	}
	add("all zones have one slot", begun(six()), false, func(s *api.State) {
		for i := range s.Zones {
			s.Zones[i].Slot = 3
		}
	})
	for _, n := range []int{0, 1} {
		add(fmt.Sprint("Whole, and Status is ", n), turned(n), false, func(s *api.State) { s.Zones[4].Whole = true })
		add(fmt.Sprint("one is Whole, and Status is ", n), mixed(), false, func(s *api.State) { s.Status[2] = n })
	}
	add("less Status", calm(), true, func(s *api.State) { s.Status = s.Status[:3] })
	add("more Status", calm(), true, func(s *api.State) { s.Status = append(s.Status, 0) })
	add("no Status", calm(), true, func(s *api.State) { s.Status = nil })
	add("empty Status", calm(), true, func(s *api.State) { s.Status = []int{} })
	add("less zones", calm(), true, func(s *api.State) { s.Zones = s.Zones[:5] })
	add("more zones", calm(), true, func(s *api.State) { s.Zones = append(s.Zones, api.Zone{Slot: -1}) })
	add("no zones", calm(), true, func(s *api.State) { s.Zones = nil })
	add("empty zones", calm(), true, func(s *api.State) { s.Zones = []api.Zone{} })
	return l
}

func TestRightOfSome(t *testing.T) {
	for i, s := range rights() {
		right(t, fmt.Sprint("a right one, ", i), s, true)
	}
	for _, w := range wrongs() {
		right(t, w.what, w.s, false)
	}
	right(t, "nothing", api.State{}, false)
}

// TestRightOfSettings: all but Conf is as it may be.
func TestRightOfSettings(t *testing.T) {
	for _, c := range sample.Refused() {
		s := api.State{Conf: c, Epoch: 1}
		for range min(c.Members, 100) {
			s.Status = append(s.Status, 0)
		}
		for range min(c.Zones, 100) {
			s.Zones = append(s.Zones, api.Zone{Slot: -1})
		}
		right(t, sprint(c), s, false)
	}
	for what, c := range map[string]api.Conf{
		"more members": sample.Listed(9, 5, 2, 64, 30, 6, 2, 3, 2, 4, 9),
		"less members": sample.Listed(9, 3, 2, 64, 30, 6, 2, 3, 2, 4, 9),
		"more zones":   sample.Listed(9, 4, 2, 64, 30, 7, 2, 3, 2, 4, 9),
		"less zones":   sample.Listed(9, 4, 2, 64, 30, 5, 2, 3, 2, 4, 9),
		"less slots":   sample.Listed(9, 4, 2, 64, 30, 6, 1, 3, 2, 4, 9),
		"less stripes": sample.Listed(9, 4, 2, 64, 28, 6, 2, 3, 2, 4, 9),
		"less bytes":   sample.Listed(9, 4, 2, 63, 30, 6, 2, 3, 2, 4, 9),
		"more bytes":   sample.Listed(9, 4, 2, 65, 30, 6, 2, 3, 2, 4, 9),
	} {
		if conf.Check(c) != api.OK {
			t.Errorf("%s: may not be", what)
		}
		right(t, what, with(mixed(), func(s *api.State) { s.Conf = c }), false)
	}
	right(t, "more slots, and stripes", with(mixed(), func(s *api.State) { s.Conf.Spare, s.Conf.Cap, s.Conf.Limit = 3, 32, 10 }), true)
}

// TestRightOfEachNumber takes each number to where it may be just yet.
func TestRightOfEachNumber(t *testing.T) {
	for _, n := range []int{1, 2, top - 1, top} {
		right(t, fmt.Sprint("Epoch ", n), with(mixed(), func(s *api.State) { s.Epoch = n }), true)
	}
	for _, n := range []int{0, 1, top - 1, top} {
		right(t, fmt.Sprint("Seq ", n), with(mixed(), func(s *api.State) { s.Seq = n }), true)
		for i := range 6 {
			right(t, fmt.Sprint("Gen ", n), zoned(mixed(), i, func(z *api.Zone) { z.Gen = n }), true)
		}
	}
	for n := range 3 {
		for m := range 4 {
			right(t, fmt.Sprint("Status ", n, " of ", m), with(calm(), func(s *api.State) { s.Status[m] = n }), true)
		}
	}
	for i := range 6 {
		for slot := -1; slot < sixSlots; slot++ {
			right(t, fmt.Sprint("Slot ", slot), zoned(begun(six()), i, func(z *api.Zone) { z.Slot = slot }), true)
		}
	}
	for i := range 2 {
		for _, n := range []int{1, 2, sixSize - 1, sixSize} {
			right(t, fmt.Sprint("W ", n, " of Par ", i), zoned(mixed(), 1, func(z *api.Zone) { z.Pars[i].W = n }), true)
		}
	}
	right(t, "two Pars over as many", zoned(mixed(), 1, func(z *api.Zone) { z.Pars[0].W, z.Pars[1].W = 5, 5 }), true)
	right(t, "a Par of bytes 0", zoned(mixed(), 1, func(z *api.Zone) { z.Pars[0].B = make([]byte, sixBytes) }), true)
}

// TestRightOfSlots: each two zones, at each two slots or none.
func TestRightOfSlots(t *testing.T) {
	for one := range 6 {
		for other := range one {
			for a := -2; a <= sixSlots; a++ {
				for b := -2; b <= sixSlots; b++ {
					s := with(begun(six()), func(s *api.State) { s.Zones[one].Slot, s.Zones[other].Slot = a, b })
					want := a >= -1 && a < sixSlots && b >= -1 && b < sixSlots && (a != b || a == -1)
					right(t, fmt.Sprint("slots ", a, " and ", b, " of zones ", one, " and ", other), s, want)
				}
			}
		}
	}
}

// TestRightOfZones: all that a zone may be, with each Status of one member.
func TestRightOfZones(t *testing.T) {
	bools := []bool{false, true}
	for status := range 3 {
		for _, slot := range []int{-1, 0, 7} {
			for _, full := range bools {
				for _, whole := range bools {
					for _, w := range []int{least, -1, 0, 1, sixSize - 1, sixSize, sixSize + 1, greatest} {
						for pars := range 4 {
							z := api.Zone{Gen: 5, Slot: slot, Full: full, Whole: whole, W: w}
							for i := range pars {
								z.Pars = append(z.Pars, par(i+1, i))
							}
							has := slot >= 0
							want := (w == 0 || full && has && w >= 0 && w <= sixSize) &&
								(!whole || has && status == 2) && (pars == 0 || has && pars <= 2)
							s := begun(six())
							s.Status[1] = status
							s.Zones[3] = z
							right(t, fmt.Sprintf("Status %d, %t %t %d pars %d slot %d", status, full, whole, w, pars, slot), s, want)
						}
					}
				}
			}
		}
	}
}

// muddle changes some parts of s to what they may be, and may not be.
func muddle(d *dice, s *api.State) {
	for range 1 + d.below(3) {
		z := &s.Zones[d.below(len(s.Zones))]
		switch d.below(12) {
		case 0:
			s.Epoch = d.of(-1, 0, 1, 5, top, top+1)
		case 1:
			s.Seq = d.of(-1, 0, 1, 5, top, top+1)
		case 2:
			s.Status[d.below(len(s.Status))] = d.of(-1, 0, 0, 0, 1, 2, 2, 3)
		case 3:
			z.Gen = d.of(-1, 0, 1, top, top+1)
		case 4, 5:
			z.Slot = d.below(sixSlots+3) - 2
		case 6:
			z.Full = d.below(2) == 0
		case 7:
			z.Whole = d.below(2) == 0
		case 8:
			z.W = d.of(-1, 0, 0, 1, sixSize, sixSize+1)
		case 9:
			z.Pars = append(z.Pars, par(d.of(1, 2, sixSize, sixSize+1), d.below(9)))
		case 10:
			z.Pars = nil
		case 11:
			*z = api.Zone{Slot: -1}
		}
	}
}

// TestRightByTheWords goes through states of which many parts are changed.
func TestRightByTheWords(t *testing.T) {
	d := dice(11)
	var seen [2]int
	for i := range 20000 {
		s := twin([]api.State{mixed(), calm(), lost(), begun(six())}[d.below(4)])
		muddle(&d, &s)
		want := may(s)
		right(t, fmt.Sprint("muddle ", i, ": ", short(s)), s, want)
		if want {
			seen[1]++
		} else {
			seen[0]++
		}
	}
	if slices.Min(seen[:]) < 2000 {
		t.Errorf("%d are wrong or right", seen)
	}
}

// TestRightOfWeird: whatever it is handed, it says something.
func TestRightOfWeird(t *testing.T) {
	for _, n := range []int{least, -1, 0, 1, greatest} {
		c := sample.Listed(n, n, n, n, n, n, n, n, n, n, n)
		s := api.State{Conf: c, Epoch: n, Seq: n, Status: []int{n, n}, Zones: []api.Zone{{Gen: n, Slot: n, W: n, Pars: []api.Par{{W: n}}}, {Gen: n, Slot: n}}}
		right(t, sprint(s), s, false)
		for x := range 8 {
			refused(t, sprint(s), s, api.Rec{Kind: x - 1, Epoch: n, Seq: n, Zone: n, Gen: n, Slot: n, W: n, Member: n, Status: n}, api.ErrArg)
		}
		if state.Put(s) != nil || !state.Same(s, state.Clone(s)) {
			t.Errorf("%d everywhere: it is put, or Clone is another one", n)
		}
	}
}
