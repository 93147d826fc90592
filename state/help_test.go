package state_test

import (
	"bytes"
	"encoding/binary"
	"math"
	"reflect"
	"testing"

	"revetment/api"
	"revetment/conf"
	"revetment/sample"
	"revetment/state"
)

const (
	least    = math.MinInt
	greatest = math.MaxInt
	top      = 1 << 40 // the greatest Epoch, Seq and Gen
)

// What follows of the settings six.
const (
	sixSize  = 90
	sixSlots = 8
	sixBytes = 128 // of a parity
)

// six is settings of four members with six logical zones.
func six() api.Conf { return sample.Listed(9, 4, 2, 64, 30, 6, 2, 3, 2, 4, 9) }

// row is n bytes that a fixed rule chooses by seed.
func row(n, seed int) []byte {
	b := make([]byte, n)
	x := uint32(seed)*2654435761 + 1
	for i := range b {
		x = x*1664525 + 1013904223
		b[i] = byte(x >> 24)
	}
	return b
}

// par is a parity of the settings six.
func par(w, seed int) api.Par { return api.Par{W: w, B: row(sixBytes, seed)} }

// mixed is a right state with zones of unlike kinds, of which one member is
// rebuilt. The slots 1, 3, 4 and 6 are free.
func mixed() api.State {
	return api.State{
		Conf:   six(),
		Epoch:  0x0102030405,
		Seq:    6,
		Status: []int{0, 0, api.MemRebuild, 0},
		Zones: []api.Zone{
			{Gen: 3, Slot: -1},
			{Gen: top, Slot: 5, Whole: true, Pars: []api.Par{par(7, 1), par(sixSize, 2)}},
			{Gen: 7, Slot: 0, Full: true, W: sixSize, Pars: []api.Par{par(1, 3)}},
			{Gen: 1, Slot: -1, Full: true},
			{Gen: 0, Slot: sixSlots - 1, Whole: true},
			{Gen: 0, Slot: 2, Full: true, Whole: true},
		},
	}
}

// calm is mixed with all members whole; lost is with one that is lost.
func calm() api.State { return turned(api.MemWhole) }
func lost() api.State { return turned(api.MemLost) }

func turned(status int) api.State {
	s := mixed()
	s.Status[2] = status
	for i := range s.Zones {
		s.Zones[i].Whole = false
	}
	return s
}

// begun is the state at the beginning, by the document's words.
func begun(c api.Conf) api.State {
	s := api.State{Conf: c, Epoch: 1}
	for range c.Members {
		s.Status = append(s.Status, 0)
	}
	for range c.Zones {
		s.Zones = append(s.Zones, api.Zone{Slot: -1})
	}
	return s
}

// utmost is a state of these settings in which all is as great as may be.
func utmost(c api.Conf) api.State {
	s := begun(c)
	s.Epoch, s.Seq = top, top
	s.Status[len(s.Status)-1] = api.MemRebuild
	for i := range s.Zones {
		p := api.Par{W: conf.Size(c), B: bytes.Repeat([]byte{0xff}, c.Unit*c.Block)}
		s.Zones[i] = api.Zone{Gen: top, Slot: conf.Slots(c) - 1 - i, Full: true, W: conf.Size(c), Whole: true, Pars: []api.Par{p, p}}
	}
	return s
}

// rights are right states of many kinds, none of them of many bytes.
func rights() []api.State {
	l := []api.State{mixed(), calm(), lost(), begun(six()), utmost(six()), utmost(conf.Plain())}
	for _, c := range sample.Good() {
		l = append(l, begun(c))
	}
	return l
}

// twin is s in memory of its own, without state's own Clone.
func twin(s api.State) api.State {
	s.Status = append([]int(nil), s.Status...)
	s.Zones = append([]api.Zone(nil), s.Zones...)
	for i := range s.Zones {
		z := &s.Zones[i]
		z.Pars = append([]api.Par(nil), z.Pars...)
		for j := range z.Pars {
			z.Pars[j].B = append([]byte(nil), z.Pars[j].B...)
		}
	}
	return s
}

// with is s with a change, in memory of its own.
func with(s api.State, change func(s *api.State)) api.State {
	s = twin(s)
	change(&s)
	return s
}

// zoned is s with a change of one zone, in memory of its own.
func zoned(s api.State, zone int, change func(z *api.Zone)) api.State {
	return with(s, func(s *api.State) { change(&s.Zones[zone]) })
}

// alike is whether two states hold the same, without state's own Same. Nil and
// empty lists are alike: twin makes nil of both.
func alike(a, b api.State) bool { return reflect.DeepEqual(twin(a), twin(b)) }

// number is n as it is laid.
func number(n int) []byte { return binary.LittleEndian.AppendUint64(nil, uint64(n)) }

// laid is what the document lays of s, right or not, by the library's means.
func laid(s api.State) []byte {
	var b []byte
	number := func(n int) { b = append(b, number(n)...) }
	flag := func(is bool) {
		if is {
			b = append(b, 1)
		} else {
			b = append(b, 0)
		}
	}
	c := s.Conf
	for _, n := range []int{c.ID, c.Members, c.Unit, c.Block, c.Cap, c.Zones, c.Spare, c.Meta, c.Open, c.Active, c.Limit} {
		number(n)
	}
	number(s.Epoch)
	number(s.Seq)
	for _, n := range s.Status {
		number(n)
	}
	for _, z := range s.Zones {
		number(z.Gen)
		number(z.Slot)
		flag(z.Full)
		number(z.W)
		flag(z.Whole)
		number(len(z.Pars))
		for _, p := range z.Pars {
			number(p.W)
			number(len(p.B))
			b = append(b, p.B...)
		}
	}
	return b
}

func same(t *testing.T, what string, got, want api.State) {
	t.Helper()
	if !alike(got, want) {
		t.Errorf("%s:\ngot  %s\nwant %s", what, short(got), short(want))
	}
}

// short is s with as much of its parities as can be looked at.
func short(s api.State) string {
	s = twin(s)
	for i := range s.Zones {
		for j, p := range s.Zones[i].Pars {
			s.Zones[i].Pars[j].B = p.B[:min(len(p.B), 4)]
		}
	}
	return sprint(s)
}

// right checks Right.
func right(t *testing.T, what string, s api.State, want bool) {
	t.Helper()
	if state.Right(s) != want {
		t.Errorf("%s: Right is not %t", what, want)
	}
	if may(s) != want {
		t.Errorf("%s: the document's words do not say %t", what, want)
	}
}

// dice throws by a fixed rule.
type dice uint64

// below is a number from 0 to n less 1.
func (d *dice) below(n int) int {
	*d = *d*6364136223846793005 + 1442695040888963407
	return int(uint64(*d) >> 33 % uint64(n))
}

// of is one of some numbers.
func (d *dice) of(some ...int) int { return some[d.below(len(some))] }
