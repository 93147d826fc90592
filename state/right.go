package state

import (
	"revetment/api"
	"revetment/conf"
	"revetment/pack"
)

const (
	noSlot     = -1
	firstEpoch = 1
	maxCount   = 1 << 40 // of Epoch, and of Seq
	mostPars   = 2       // of a zone
)

// span is from where to where a number may be.
type span struct{ low, high int }

func (p span) has(n int) bool {
	return n >= p.low && n <= p.high
}

func (p span) read(r *pack.Reader) int {
	return r.Int(p.low, p.high)
}

// bounds is what each number of a state may be. Right, Apply and Get all ask
// it, so that they can't come apart.
type bounds struct {
	epoch, seq, status span
	gen, slot, w       span
	pars, parW         span
	parBytes           int // just so many
}

// boundsOf is of settings that may be.
func boundsOf(c api.Conf) bounds {
	size := conf.Size(c)
	return bounds{
		epoch:    span{firstEpoch, maxCount},
		seq:      span{0, maxCount},
		status:   span{api.MemWhole, api.MemRebuild},
		gen:      span{0, api.MaxGen},
		slot:     span{noSlot, conf.Slots(c) - 1},
		w:        span{0, size},
		pars:     span{0, mostPars},
		parW:     span{1, size},
		parBytes: c.Unit * c.Block,
	}
}

// Right is whether s may be.
func Right(s api.State) bool {
	if conf.Check(s.Conf) != api.OK {
		return false
	}
	if len(s.Status) != s.Conf.Members || len(s.Zones) != s.Conf.Zones {
		return false
	}
	b := boundsOf(s.Conf)
	return b.epoch.has(s.Epoch) && b.seq.has(s.Seq) && b.mayStand(s.Status) &&
		b.mayBe(s.Zones, rebuilds(s)) && apart(s)
}

// mayStand is whether members may have these Status beside each other.
func (b bounds) mayStand(status []int) bool {
	odd := 0
	for _, n := range status {
		if !b.status.has(n) {
			return false
		}
		if n != api.MemWhole {
			odd++
		}
	}
	return odd <= 1
}

// mayBe is whether each of some zones, alone, may be, while a member is rebuilt
// or none is.
func (b bounds) mayBe(zones []api.Zone, rebuilt bool) bool {
	for _, z := range zones {
		if !b.gen.has(z.Gen) || !b.slot.has(z.Slot) || !b.mayHave(z.Pars) {
			return false
		}
		has := z.Slot != noSlot
		if len(z.Pars) > 0 && !has || z.Whole && !(has && rebuilt) {
			return false
		}
		if !b.mayEnd(z.W, has) || z.W != 0 && !z.Full {
			return false
		}
	}
	return true
}

// mayEnd is whether a finished zone may have w blocks, with a slot or without
// one.
func (b bounds) mayEnd(w int, has bool) bool {
	return b.w.has(w) && (w == 0 || has)
}

// mayHave is whether a zone may have these Pars.
func (b bounds) mayHave(pars []api.Par) bool {
	for _, p := range pars {
		if !b.parW.has(p.W) || len(p.B) != b.parBytes {
			return false
		}
	}
	return b.pars.has(len(pars))
}

// apart is whether no two zones have one slot.
func apart(s api.State) bool {
	left := conf.Slots(s.Conf)
	for _, z := range s.Zones {
		if z.Slot != noSlot {
			left--
		}
	}
	return len(Free(s)) == left
}
