package state

import (
	"revetment/api"
	"revetment/conf"
	"revetment/pack"
)

// Put lays s as bytes.
func Put(s api.State) []byte {
	if !Right(s) {
		return nil
	}
	b := conf.Put(s.Conf)
	b = pack.Int(b, s.Epoch)
	b = pack.Int(b, s.Seq)
	for _, n := range s.Status {
		b = pack.Int(b, n)
	}
	for _, z := range s.Zones {
		b = append(b, putZone(z)...)
	}
	return b
}

// putZone lays a zone by itself, and each parity: pack copies all that is
// ahead of what it lays, and parities are long.
func putZone(z api.Zone) []byte {
	b := pack.Int(nil, z.Gen)
	b = pack.Int(b, z.Slot)
	b = pack.Flag(b, z.Full)
	b = pack.Int(b, z.W)
	b = pack.Flag(b, z.Whole)
	b = pack.Int(b, len(z.Pars))
	for _, p := range z.Pars {
		b = append(b, pack.Bytes(pack.Int(nil, p.W), p.B)...)
	}
	return b
}

// Get is the state that Put laid.
func Get(b []byte) (api.State, api.Errno) {
	c, rest, e := settings(b)
	if e != api.OK {
		return api.State{}, e
	}
	r := pack.New(rest)
	s := boundsOf(c).getState(r, c)
	if e := r.Err(); e != api.OK {
		return api.State{}, e
	}
	if r.Left() > 0 || !Right(s) {
		return api.State{}, api.ErrForm
	}
	return s, api.OK
}

// settings is what b begins with, and what is behind. Settings that may not be
// are refused ahead of all that lacks behind them, as nothing says then what
// should be there.
func settings(b []byte) (c api.Conf, rest []byte, e api.Errno) {
	size := min(len(conf.Put(c)), len(b))
	c, e = conf.Get(b[:size])
	if e != api.OK {
		return api.Conf{}, nil, e
	}
	if conf.Check(c) != api.OK {
		return api.Conf{}, nil, api.ErrForm
	}
	return c, b[size:], api.OK
}

// getState is what stands behind the settings c. Where r tells an error it is
// of no use.
func (b bounds) getState(r *pack.Reader, c api.Conf) api.State {
	s := api.State{
		Conf:   c,
		Epoch:  b.epoch.read(r),
		Seq:    b.seq.read(r),
		Status: make([]int, c.Members),
		Zones:  make([]api.Zone, c.Zones),
	}
	for i := range s.Status {
		s.Status[i] = b.status.read(r)
	}
	for i := range s.Zones {
		s.Zones[i] = b.getZone(r)
	}
	return s
}

func (b bounds) getZone(r *pack.Reader) api.Zone {
	z := api.Zone{
		Gen:   b.gen.read(r),
		Slot:  b.slot.read(r),
		Full:  r.Flag(),
		W:     b.w.read(r),
		Whole: r.Flag(),
	}
	for range b.pars.read(r) {
		z.Pars = append(z.Pars, api.Par{W: b.parW.read(r), B: r.Bytes(b.parBytes)})
	}
	return z
}
