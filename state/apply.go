package state

import (
	"bytes"
	"slices"

	"revetment/api"
)

// Apply is s, and x behind it.
func Apply(s api.State, x api.Rec) (api.State, api.Errno) {
	if !Right(s) {
		return api.State{}, api.ErrArg
	}
	if !follows(s, x) {
		return api.State{}, api.ErrForm
	}
	s = Clone(s)
	s.Seq = x.Seq
	if x.Kind == api.RecStatus {
		s.Status[x.Member] = x.Status
		for i := range s.Zones {
			s.Zones[i].Whole = false
		}
	} else {
		s.Zones[x.Zone] = changed(s, x)
	}
	return s, api.OK
}

// follows is whether x may come behind s, which is right.
func follows(s api.State, x api.Rec) bool {
	b := boundsOf(s.Conf)
	if x.Epoch != s.Epoch || x.Seq != s.Seq+1 || !b.seq.has(x.Seq) {
		return false
	}
	if x.Kind == api.RecStatus {
		return mayTurn(s, x.Member) && b.status.has(x.Status)
	}
	return x.Zone >= 0 && x.Zone < len(s.Zones) && b.fits(s, x)
}

// mayTurn is whether the member is one, and all others are whole.
func mayTurn(s api.State, member int) bool {
	m, _, odd := Odd(s)
	return member >= 0 && member < len(s.Status) && (!odd || m == member)
}

// fits is whether x, of a zone that there is, is of a kind that may come
// behind what its zone is.
func (b bounds) fits(s api.State, x api.Rec) bool {
	z := s.Zones[x.Zone]
	has := z.Slot != noSlot
	switch x.Kind {
	case api.RecMap:
		return !has && !z.Full && x.Gen == z.Gen && slices.Contains(Free(s), x.Slot)
	case api.RecReset:
		return x.Gen == z.Gen+1 && b.gen.has(x.Gen)
	case api.RecWhole:
		return has && rebuilds(s)
	case api.RecParity:
		if x.Gen != z.Gen || x.W == 0 || len(x.Body) != b.parBytes {
			return false
		}
		fallthrough // it is over what a zone may end with: none without a slot
	case api.RecFinish:
		return !z.Full && b.mayEnd(x.W, has)
	}
	return false
}

// changed is x's zone of s, with x, which follows. It is in s's memory.
func changed(s api.State, x api.Rec) api.Zone {
	z := s.Zones[x.Zone]
	switch x.Kind {
	case api.RecMap:
		z.Slot = x.Slot
		fallthrough // a slot that is taken meanwhile has all parts
	case api.RecWhole:
		z.Whole = rebuilds(s)
	case api.RecReset:
		z = api.Zone{Gen: x.Gen, Slot: noSlot}
	case api.RecFinish:
		z.Full, z.W = true, x.W
	case api.RecParity:
		z.Pars = append(z.Pars, api.Par{W: x.W, B: bytes.Clone(x.Body)})
		z.Pars = slices.Delete(z.Pars, 0, max(0, len(z.Pars)-mostPars))
	}
	return z
}
