package state_test

import (
	"fmt"

	"revetment/api"
	"revetment/conf"
)

// What the document says, in its order and sentence by sentence, for tests
// that go through more than can be listed.

func sprint(x any) string { return fmt.Sprintf("%+v", x) }

// within is whether n is from low to high.
func within(n, low, high int) bool { return low <= n && n <= high }

// may is P11.1's Right.
func may(s api.State) bool {
	c := s.Conf
	if conf.Check(c) != api.OK || !within(s.Epoch, 1, 1<<40) || !within(s.Seq, 0, 1<<40) || len(s.Status) != c.Members || len(s.Zones) != c.Zones {
		return false
	}
	odd, rebuilds := 0, 0
	for _, n := range s.Status {
		switch n {
		case 0:
		case 1:
			odd++
		case 2:
			odd++
			rebuilds++
		default:
			return false
		}
	}
	if odd > 1 {
		return false
	}
	owners := map[int]int{}
	for _, z := range s.Zones {
		owners[z.Slot]++
	}
	for _, z := range s.Zones {
		slot := z.Slot != -1
		switch {
		case !within(z.Gen, 0, api.MaxGen),
			!within(z.Slot, -1, c.Zones+c.Spare-1),
			slot && owners[z.Slot] > 1,
			!within(z.W, 0, c.Cap/c.Unit*(c.Members-1)*c.Unit),
			!z.Full && z.W != 0,
			!slot && z.W != 0,
			z.Whole && !slot,
			z.Whole && rebuilds == 0,
			len(z.Pars) > 2,
			len(z.Pars) > 0 && !slot:
			return false
		}
		for _, p := range z.Pars {
			if !within(p.W, 1, c.Cap/c.Unit*(c.Members-1)*c.Unit) || len(p.B) != c.Unit*c.Block {
				return false
			}
		}
	}
	return true
}

// behind is P11.2's Apply, of a state that is right: what s is behind x, and
// whether x follows.
func behind(s api.State, x api.Rec) (api.State, bool) {
	s = twin(s)
	if x.Epoch != s.Epoch || x.Seq-1 != s.Seq || x.Seq > 1<<40 {
		return api.State{}, false
	}
	s.Seq = x.Seq
	rebuilds := 0
	others := 0
	for m, n := range s.Status {
		if n == 2 {
			rebuilds++
		}
		if n != 0 && m != x.Member {
			others++
		}
	}
	if x.Kind == 6 {
		if !within(x.Member, 0, len(s.Status)-1) || !within(x.Status, 0, 2) || others > 0 {
			return api.State{}, false
		}
		s.Status[x.Member] = x.Status
		for i := range s.Zones {
			s.Zones[i].Whole = false
		}
		return s, true
	}
	if !within(x.Zone, 0, len(s.Zones)-1) {
		return api.State{}, false
	}
	owned := false
	for _, z := range s.Zones {
		owned = owned || z.Slot == x.Slot
	}
	return s, ofKind(s, x, &s.Zones[x.Zone], rebuilds > 0, owned)
}

// ofKind is whether x may come behind what its zone z is, and makes it so.
func ofKind(s api.State, x api.Rec, z *api.Zone, rebuilds, owned bool) bool {
	c := s.Conf
	size := c.Cap / c.Unit * (c.Members - 1) * c.Unit
	slot := z.Slot != -1
	switch x.Kind {
	case 1:
		if slot || z.Full || z.Gen != x.Gen || !within(x.Slot, 0, c.Zones+c.Spare-1) || owned {
			return false
		}
		z.Slot, z.Whole = x.Slot, rebuilds
	case 2:
		if x.Gen-1 != z.Gen || x.Gen > 1<<40 {
			return false
		}
		*z = api.Zone{Gen: x.Gen, Slot: -1}
	case 3:
		if z.Full || !within(x.W, 0, size) || !slot && x.W != 0 {
			return false
		}
		z.Full, z.W = true, x.W
	case 4:
		if !slot || z.Full || z.Gen != x.Gen || !within(x.W, 1, size) || len(x.Body) != c.Unit*c.Block {
			return false
		}
		z.Pars = append(z.Pars, api.Par{W: x.W, B: append([]byte(nil), x.Body...)})
		if len(z.Pars) == 3 {
			z.Pars = []api.Par{z.Pars[1], z.Pars[2]}
		}
	case 5:
		if !slot || !rebuilds {
			return false
		}
		z.Whole = true
	default:
		return false
	}
	return true
}
