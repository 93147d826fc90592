package state_test

import (
	"bytes"
	"fmt"
	"slices"
	"testing"

	"revetment/api"
	"revetment/conf"
	"revetment/state"
)

// roomy is s in memory of its own, with spare room behind each list.
func roomy(s api.State) api.State {
	s = twin(s)
	s.Status = append(s.Status, 8, 8, 8)[:len(s.Status)]
	for i := range s.Zones {
		z := &s.Zones[i]
		for j := range z.Pars {
			p := &z.Pars[j]
			p.B = append(p.B, bytes.Repeat([]byte{8}, 300)...)[:len(p.B)]
		}
		z.Pars = append(z.Pars, par(8, 8), par(9, 9), par(8, 7))[:len(z.Pars)]
	}
	more := api.Zone{Gen: 8, Slot: 8, Pars: []api.Par{par(3, 3)}}
	s.Zones = append(s.Zones, more, more, more)[:len(s.Zones)]
	return s
}

// opened is s with all lists as long as their room.
func opened(s api.State) api.State {
	s.Status = s.Status[:cap(s.Status)]
	s.Zones = slices.Clone(s.Zones[:cap(s.Zones)])
	for i := range s.Zones {
		z := &s.Zones[i]
		z.Pars = slices.Clone(z.Pars[:cap(z.Pars)])
		for j := range z.Pars {
			z.Pars[j].B = z.Pars[j].B[:cap(z.Pars[j].B)]
		}
	}
	return s
}

// spoilers write over one list each, and its spare room: all lists of s. They
// are asked in an order in which none loses what a later one is of.
func spoilers(s api.State) []func() {
	var l []func()
	zones := s.Zones[:cap(s.Zones)]
	for i := range zones {
		pars := zones[i].Pars[:cap(zones[i].Pars)]
		for j := range pars {
			l = append(l, func() { fill(pars[j].B) })
		}
		l = append(l, func() {
			for j := range pars {
				pars[j] = api.Par{W: -77}
			}
		})
	}
	return append(l, func() {
		for i := range zones {
			zones[i] = api.Zone{Gen: -77, Slot: -77}
		}
	}, func() {
		for i := range s.Status[:cap(s.Status)] {
			s.Status[:cap(s.Status)][i] = -77
		}
	})
}

// fill writes over a list and its spare room.
func fill(b []byte) {
	b = b[:cap(b)]
	for i := range b {
		b[i] = 0xee
	}
}

// spoil writes over all lists of s.
func spoil(s api.State) {
	for _, f := range spoilers(s) {
		f()
	}
}

// makers are all calls that answer a state, of a state that is handed in.
func makers() map[string]func(s api.State) api.State {
	l := map[string]func(s api.State) api.State{
		"Clone": state.Clone,
		"Get": func(s api.State) api.State {
			u, _ := state.Get(laid(s))
			return u
		},
		"New": func(s api.State) api.State {
			u, _ := state.New(s.Conf)
			return u
		},
	}
	for i, x := range followers() {
		l[fmt.Sprint("Apply ", i)] = func(s api.State) api.State {
			x.Body = bytes.Clone(x.Body)
			u, _ := state.Apply(s, x)
			return u
		}
	}
	return l
}

// TestStatesAreNewMemory: an answer shares nothing with what was handed in,
// nor with another answer.
func TestStatesAreNewMemory(t *testing.T) {
	for what, answer := range makers() {
		s := roomy(mixed())
		was := twin(opened(s))
		first, second := answer(s), answer(s)
		want := twin(second)
		same(t, what+": twice", first, second)
		spoil(first)
		same(t, what+", an answer written to: what was handed in", opened(s), was)
		same(t, what+", an answer written to: another one", second, want)
		same(t, what+", once more", answer(s), want)
		spoil(s)
		same(t, what+", what was handed in written to: an answer", second, want)
		if may(want) != state.Right(second) {
			t.Errorf("%s: Right says another thing", what)
		}
	}
}

// TestListsOfAStateAreApart: no two lists of one answer share anything.
func TestListsOfAStateAreApart(t *testing.T) {
	for what, answer := range makers() {
		was := answer(mixed())
		n := len(spoilers(was))
		for i := range n {
			s := answer(mixed())
			all := spoilers(s)
			if len(all) != n {
				t.Fatalf("%s: %d lists, and %d", what, n, len(all))
			}
			all[i]()
			if unlike := spoiled(s, was); unlike > 1 {
				t.Errorf("%s: list %d written to: %d lists are others", what, i, unlike)
			}
		}
	}
}

// spoiled is how many lists of s are written to, that was as was is.
func spoiled(s, was api.State) int {
	n := 0
	if !slices.Equal(s.Status, was.Status) {
		n++
	}
	if s.Zones[0].Gen == -77 {
		n++
		s.Zones = was.Zones
	}
	for i, z := range s.Zones {
		if len(z.Pars) > 0 && z.Pars[0].W == -77 {
			n++
			z.Pars = nil
		}
		for j, p := range z.Pars {
			if !bytes.Equal(p.B, was.Zones[i].Pars[j].B) {
				n++
			}
		}
	}
	return n
}

// TestApplyKeepsNoBody: the record's Body, and its spare room, stay the
// caller's.
func TestApplyKeepsNoBody(t *testing.T) {
	s := mixed()
	for _, zone := range []int{1, 4} {
		all := bytes.Repeat([]byte{7}, 3*sixBytes)
		x := next(s, api.Rec{Kind: api.RecParity, Zone: zone, Gen: s.Zones[zone].Gen, W: 4, Body: all[:sixBytes]})
		first, _ := state.Apply(s, x)
		second, _ := state.Apply(s, x)
		want := twin(second)
		spoil(first)
		if !bytes.Equal(all, bytes.Repeat([]byte{7}, 3*sixBytes)) {
			t.Error("an answer written to: Body is another one")
		}
		fill(all)
		same(t, "Body written to", second, want)
		if pars := second.Zones[zone].Pars; !bytes.Equal(pars[len(pars)-1].B, bytes.Repeat([]byte{7}, sixBytes)) {
			t.Error("the parity is another one")
		}
	}
}

// TestApplyInARow: states along a row share nothing.
func TestApplyInARow(t *testing.T) {
	s := calm()
	row := []api.State{s}
	was := []api.State{twin(s)}
	for i := range 12 {
		x := next(s, api.Rec{Kind: api.RecParity, Zone: 4, W: i + 1, Body: bytes.Repeat([]byte{byte(i)}, sixBytes)})
		s, _ = state.Apply(s, x)
		row = append(row, s)
		was = append(was, twin(s))
	}
	for i := range row {
		spoil(row[i])
		for j := i + 1; j < len(row); j++ {
			same(t, fmt.Sprint("state ", i, " written to: state ", j), row[j], was[j])
		}
	}
}

// TestAsksChangeNothing: what is handed to them, spare room too, stays.
func TestAsksChangeNothing(t *testing.T) {
	some := []api.State{mixed(), calm(), lost(), begun(conf.Plain())}
	for _, w := range wrongs() {
		some = append(some, w.s)
	}
	for i, s := range some {
		s = roomy(s)
		was := twin(opened(s))
		for range 2 {
			state.Right(s)
			state.Put(s)
			state.Same(s, s)
			state.Free(s)
			state.Odd(s)
			state.Clone(s)
			for _, x := range followers() {
				body := bytes.Clone(x.Body)
				state.Apply(s, next(s, x))
				x.Gen++
				state.Apply(s, next(s, x))
				if !bytes.Equal(body, x.Body) {
					t.Errorf("state %d: Body is another one", i)
				}
			}
		}
		same(t, fmt.Sprint("state ", i), opened(s), was)
	}
}

func TestPutAndFreeAreNewMemory(t *testing.T) {
	for i, s := range rights() {
		s = roomy(s)
		was := twin(opened(s))
		first, second := state.Put(s), state.Put(s)
		want := bytes.Clone(second)
		fill(first)
		same(t, fmt.Sprint("Put of ", i), opened(s), was)
		a, b := state.Free(s), state.Free(s)
		free := slices.Clone(b)
		for j := range a[:cap(a)] {
			a[:cap(a)][j] = -5
		}
		same(t, fmt.Sprint("Free of ", i), opened(s), was)
		spoil(s)
		if !bytes.Equal(second, want) || !slices.Equal(b, free) {
			t.Errorf("state %d: an answer is another one", i)
		}
	}
}

func TestGetKeepsNoBytes(t *testing.T) {
	for i, s := range append(rights(), lost()) {
		laid := laid(s)
		all := append(bytes.Clone(laid), row(500, 1)...)
		was := bytes.Clone(all)
		first, _ := state.Get(all[:len(laid)])
		second, _ := state.Get(all[:len(laid)])
		spoil(first)
		state.Get(all[:len(laid)-1])
		state.Get(all[:len(laid)+1])
		if !bytes.Equal(all, was) {
			t.Errorf("state %d: the bytes are others", i)
		}
		fill(all)
		same(t, fmt.Sprint("state ", i, ", the bytes written to"), second, s)
	}
}

// TestAnswersHangOnArgumentsAlone: whatever was asked ahead.
func TestAnswersHangOnArgumentsAlone(t *testing.T) {
	b := state.Put(mixed())
	for range 3 {
		s, _ := state.New(six())
		same(t, "New", s, begun(six()))
		spoil(s)
		gets(t, "Get", b, mixed())
		denies(t, "Get of less", b[:len(b)-1], api.ErrShort)
		right(t, "Right", mixed(), true)
		right(t, "Right of nothing", api.State{}, false)
		frees(t, "Free", mixed(), 1, 3, 4, 6)
		odds(t, "Odd", mixed(), 2, 2, true)
		for _, x := range followers() {
			want, _ := behind(mixed(), x)
			applies(t, "Apply", mixed(), x, want)
		}
		if !bytes.Equal(state.Put(mixed()), b) {
			t.Error("Put lays other bytes")
		}
	}
}
