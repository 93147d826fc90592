package scan_test

import (
	"bytes"
	"fmt"
	"slices"
	"testing"

	"revetment/api"
	"revetment/conf"
	"revetment/rec"
	"revetment/sample"
	"revetment/scan"
	"revetment/state"
)

// P12.2: what stands where the checkpoint should

func TestExample(t *testing.T) {
	refuses(t, "no bytes", nil, conf.Plain(), 0, api.ErrShort)
	refuses(t, "empty bytes", []byte{}, conf.Plain(), 0, api.ErrShort)
}

// TestLogOfSettings: ErrArg, with each error of conf.Check, whatever the bytes
// are.
func TestLogOfSettings(t *testing.T) {
	some := [][]byte{nil, {1}, make([]byte, 1000), bytes.Repeat([]byte{0xff}, 1000), sixTrail(t).laid, scan.First(begun(conf.Plain()), 0)}
	for want, l := range map[api.Errno][]api.Conf{api.ErrArg: sample.Argued(), api.ErrSpace: sample.Tight()} {
		for _, c := range l {
			if e := conf.Check(c); e != want {
				t.Errorf("%+v: error %d, want %d", c, int(e), int(want))
			}
			own := framed(slices.Concat(numbers(0, 1, 0, 0, 0, 0, 0, 0, 0, len(laidOf(c))), laidOf(c)), min(max(c.Block, 1), 4096))
			for i, b := range append(some, own) {
				for _, m := range []int{-1, 0, 1, greatest} {
					refuses(t, fmt.Sprintf("%+v, bytes %d", c, i), b, c, m, api.ErrArg)
				}
			}
		}
	}
}

// laidOf is what would be laid of a state at the beginning, of settings that
// may not be.
func laidOf(c api.Conf) []byte {
	s := fitted(c)
	b := append(conf.Put(c), numbers(s.Epoch, s.Seq)...)
	b = append(b, numbers(s.Status...)...)
	for range s.Zones {
		b = slices.Concat(b, numbers(0, -1), []byte{0}, numbers(0), []byte{0}, numbers(0))
	}
	return b
}

// TestLogOfSettingsThatMayBe: a checkpoint of each is read.
func TestLogOfSettingsThatMayBe(t *testing.T) {
	for _, c := range append(sample.Good(), six(), narrow()) {
		s := begun(c)
		for m := range c.Members {
			b := rec.Put(check(s, m), c.Block)
			what := fmt.Sprintf("%+v, member %d", c, m)
			reads(t, what, b, c, m, api.Found{State: s, Blocks: len(b) / c.Block})
			for _, n := range firsts(c.Members) {
				if n != m {
					refuses(t, fmt.Sprint(what, ", asked for ", n), b, c, n, api.ErrForm)
				}
			}
		}
	}
}

// TestLogOfLessThanACheckpoint: any number of its bytes wants.
func TestLogOfLessThanACheckpoint(t *testing.T) {
	for name, r := range trails(t) {
		for n := range r.ends[0] {
			refuses(t, fmt.Sprint(name, ", ", n, " bytes"), r.laid[:n], r.conf(), r.member, api.ErrShort)
		}
		for _, n := range []int{1, 15, 16, 17, r.conf().Block} {
			b := append(bytes.Clone(r.laid[:r.ends[0]]), make([]byte, n)...)
			r.reads(t, fmt.Sprint(name, ", ", n, " bytes 0 behind"), b, 0)
			b = append(bytes.Clone(r.laid[:r.ends[0]]), row(n, n)...)
			r.reads(t, fmt.Sprint(name, ", ", n, " bytes behind"), b, 0)
		}
	}
}

// TestLogOfAChangedCheckpoint: with one byte changed, at each place, rec
// refuses it, and its error is told.
func TestLogOfAChangedCheckpoint(t *testing.T) {
	var seen [18]int
	for name, r := range trails(t) {
		b := bytes.Clone(r.laid)
		for i := range r.ends[0] {
			for _, by := range []byte{1, 2, 0x80, 0xff} {
				b[i] ^= by
				_, _, want := rec.Get(b, r.conf().Block)
				seen[want]++
				refuses(t, fmt.Sprint(name, ", byte ", i, " by ", by), b, r.conf(), r.member, want)
				b[i] ^= by
			}
		}
		r.reads(t, name, b, r.last())
	}
	if seen[api.OK] > 0 || seen[api.ErrForm] == 0 || seen[api.ErrShort] == 0 || seen[api.ErrSum] == 0 {
		t.Errorf("errors %d", seen)
	}
}

// TestLogOfNoRecord: rec's errors, by what they are named for.
func TestLogOfNoRecord(t *testing.T) {
	b := rec.Put(check(begun(six()), 1), 64)
	for what, one := range map[string]struct {
		b    []byte
		want api.Errno
	}{
		"15 bytes":            {b[:15], api.ErrShort},
		"bytes 0":             {make([]byte, 640), api.ErrForm},
		"bytes ff":            {bytes.Repeat([]byte{0xff}, 640), api.ErrForm},
		"a payload too long":  {slices.Concat(numbers(api.MaxText+81, 0), b), api.ErrForm},
		"a payload that ends": {slices.Concat(numbers(api.MaxText+80, 0), b), api.ErrShort},
		"a payload below 0":   {slices.Concat(numbers(-1, 0), b), api.ErrForm},
		"another sum":         {slices.Concat(b[:8], numbers(1), b[16:]), api.ErrSum},
		"Member -1":           {framed(slices.Concat(numbers(0, 1, 0, 0, 0, 0, 0, -1, 0, len(b)), b), 64), api.ErrForm},
		"Kind 7":              {framed(slices.Concat(numbers(7, 1, 0, 0, 0, 0, 0, 1, 0, len(b)), b), 64), api.ErrForm},
		"a byte 0 ahead":      {append([]byte{0}, b...), api.ErrShort},
		"no head":             {b[16:], api.ErrSum},
	} {
		if _, _, e := rec.Get(one.b, 64); e != one.want {
			t.Errorf("%s: rec tells error %d, want %d", what, int(e), int(one.want))
		}
		refuses(t, what, one.b, six(), 1, one.want)
	}
}

// TestLogOfOtherKinds: a checkpoint should be there, and what stands there is
// right but for its kind.
func TestLogOfOtherKinds(t *testing.T) {
	for name, r := range trails(t) {
		for kind := range 7 {
			x := check(r.states[0], r.member)
			x.Kind = kind
			b := append(rec.Put(x, r.conf().Block), r.laid[r.ends[0]:]...)
			if what := fmt.Sprint(name, ", kind ", kind); kind == api.RecCheck {
				r.reads(t, what, b, r.last())
			} else {
				refuses(t, what, b, r.conf(), r.member, api.ErrForm)
			}
		}
		for i := 1; i <= r.last(); i++ {
			_, behind := r.pieces(i - 1)
			refuses(t, fmt.Sprint(name, ", from record ", i, " on"), behind, r.conf(), r.member, api.ErrForm)
		}
	}
}

// TestLogOfOtherMembers: each asks for its own.
func TestLogOfOtherMembers(t *testing.T) {
	for name, r := range trails(t) {
		n := r.conf().Members
		for _, asked := range firsts(n) {
			if what := fmt.Sprint(name, ", asked for ", asked); asked == r.member {
				r.reads(t, what, r.laid, r.last())
			} else {
				refuses(t, what, r.laid, r.conf(), asked, api.ErrForm)
			}
		}
		for m := range n + 2 {
			b := append(rec.Put(check(r.states[0], m), r.conf().Block), r.laid[r.ends[0]:]...)
			if what := fmt.Sprint(name, ", laid of ", m); m == r.member {
				r.reads(t, what, b, r.last())
			} else {
				refuses(t, what, b, r.conf(), r.member, api.ErrForm)
			}
		}
	}
}

// TestWhatACheckpointDoesNotName plays no part.
func TestWhatACheckpointDoesNotName(t *testing.T) {
	r := sixTrail(t)
	for _, n := range []int{0, 1, 7, top} {
		x := check(r.states[0], r.member)
		x.Zone, x.Gen, x.Slot, x.W, x.Status = n, n, n-1, n, n
		r.reads(t, fmt.Sprint("each is ", n), append(rec.Put(x, 64), r.laid[r.ends[0]:]...), r.last())
	}
}

// TestLogOfOtherBodies: of bytes that are no state, ErrForm, whatever pack
// tells of them.
func TestLogOfOtherBodies(t *testing.T) {
	s := mixed()
	body := state.Put(s)
	some := map[string][]byte{
		"no bytes":         nil,
		"a byte":           {0},
		"settings":         conf.Put(six()),
		"bytes 0":          make([]byte, len(body)),
		"bytes ff":         bytes.Repeat([]byte{0xff}, len(body)),
		"any bytes":        row(len(body), 1),
		"a byte more":      append(bytes.Clone(body), 0),
		"two of them":      slices.Concat(body, body),
		"as many as there": row(api.MaxText, 2),
	}
	for n := range len(body) {
		some[fmt.Sprint(n, " of its bytes")] = body[:n]
	}
	for what, b := range some {
		x := check(s, 1)
		x.Body = b
		refuses(t, what, rec.Put(x, 64), six(), 1, api.ErrForm)
	}
	for i := range body {
		x := check(s, 1)
		x.Body = bytes.Clone(body)
		x.Body[i] ^= 0x80
		u, e := state.Get(x.Body)
		b := rec.Put(x, 64)
		if e == api.OK && u.Conf == s.Conf && u.Epoch == s.Epoch && u.Seq == s.Seq {
			reads(t, fmt.Sprint("byte ", i), b, six(), 1, api.Found{State: u, Blocks: len(b) / 64})
		} else {
			refuses(t, fmt.Sprint("byte ", i), b, six(), 1, api.ErrForm)
		}
	}
}

// TestLogOfOtherSettings: each number alone is another one, in what is asked
// for, and in what is laid.
func TestLogOfOtherSettings(t *testing.T) {
	was := sample.Listed(9, 4, 2, 64, 60, 6, 2, 3, 2, 4, 12)
	changes := map[string]func(c *api.Conf){
		"ID":      func(c *api.Conf) { c.ID++ },
		"Members": func(c *api.Conf) { c.Members++ },
		"Unit":    func(c *api.Conf) { c.Unit++ },
		"Block":   func(c *api.Conf) { c.Block *= 2 },
		"Cap":     func(c *api.Conf) { c.Cap += 2 },
		"Zones":   func(c *api.Conf) { c.Zones++ },
		"Spare":   func(c *api.Conf) { c.Spare++ },
		"Meta":    func(c *api.Conf) { c.Meta++ },
		"Open":    func(c *api.Conf) { c.Open++ },
		"Active":  func(c *api.Conf) { c.Active++ },
		"Limit":   func(c *api.Conf) { c.Limit++ },
	}
	for what, change := range changes {
		c := was
		change(&c)
		if conf.Check(c) != api.OK || conf.Check(was) != api.OK {
			t.Fatalf("%s: error %d", what, int(conf.Check(c)))
		}
		for _, pair := range [][2]api.Conf{{was, c}, {c, was}} {
			laid, asked := pair[0], pair[1]
			b := rec.Put(check(begun(laid), 1), asked.Block)
			refuses(t, what, b, asked, 1, api.ErrForm)
			b = rec.Put(check(begun(asked), 1), asked.Block)
			reads(t, what, b, asked, 1, api.Found{State: begun(asked), Blocks: len(b) / asked.Block})
		}
	}
}

// TestLogOfOtherEpochAndSeq: the record's, and those of its Body.
func TestLogOfOtherEpochAndSeq(t *testing.T) {
	some := []int{0, 1, 2, 5, 6, 7, top - 1, top}
	for _, epoch := range some {
		for _, seq := range some {
			s := with(mixed(), func(s *api.State) { s.Epoch, s.Seq = 6, 6 })
			x := check(s, 1)
			x.Epoch, x.Seq = epoch, seq
			what := fmt.Sprint("the record has ", epoch, " and ", seq)
			b := rec.Put(x, 64)
			if epoch == 6 && seq == 6 {
				reads(t, what, b, six(), 1, api.Found{State: s, Blocks: len(b) / 64})
			} else {
				refuses(t, what, b, six(), 1, api.ErrForm)
			}
			if s.Epoch, s.Seq = epoch, seq; epoch == 0 || epoch == 6 && seq == 6 {
				continue
			}
			x = check(s, 1)
			x.Epoch, x.Seq = 6, 6
			refuses(t, fmt.Sprint("the state has ", epoch, " and ", seq), rec.Put(x, 64), six(), 1, api.ErrForm)
		}
	}
}
