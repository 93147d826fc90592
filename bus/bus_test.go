package bus_test

import (
	"bytes"
	"fmt"
	"math"
	"slices"
	"testing"

	"revetment/api"
	"revetment/bus"
	"revetment/zdev"
)

const (
	least    = math.MinInt
	greatest = math.MaxInt
)

// made is a bus that must come about.
func made(t *testing.T, members, zones, room, block, limit int) *bus.Bus {
	t.Helper()
	b, e := bus.New(members, zones, room, block, limit)
	if e != api.OK || b == nil {
		t.Fatalf("New(%d, %d, %d, %d, %d): %d", members, zones, room, block, limit, int(e))
	}
	return b
}

func answers(t *testing.T, what string, got, want api.Errno) {
	t.Helper()
	if got != want {
		t.Errorf("%s: got %d, want %d", what, int(got), int(want))
	}
}

// add appends what must be taken.
func add(t *testing.T, b *bus.Bus, m, z int, x string) {
	t.Helper()
	answers(t, fmt.Sprintf("Append of %q to member %d, zone %d", x, m, z), b.Append(m, z, []byte(x)), api.OK)
}

// flush makes n commands that must go through.
func flush(t *testing.T, b *bus.Bus, m, n int) {
	t.Helper()
	for i := range n {
		answers(t, fmt.Sprintf("Flush %d of %d to member %d", i, n, m), b.Flush(m), api.OK)
	}
}

// killed loses a member at once.
func killed(t *testing.T, b *bus.Bus, m int) {
	t.Helper()
	b.Kill(m, 0)
	dead(t, "killed", b, m, true)
}

func dead(t *testing.T, what string, b *bus.Bus, m int, want bool) {
	t.Helper()
	if got := b.Dead(m); got != want {
		t.Errorf("%s: Dead(%d) is %t", what, m, got)
	}
}

func down(t *testing.T, what string, b *bus.Bus, want bool) {
	t.Helper()
	if got := b.Down(); got != want {
		t.Errorf("%s: Down is %t", what, got)
	}
}

func counts(t *testing.T, what string, b *bus.Bus, count, bad int) {
	t.Helper()
	if b.Count() != count || b.Bad() != bad {
		t.Errorf("%s: Count %d, Bad %d; want %d, %d", what, b.Count(), b.Bad(), count, bad)
	}
}

// told is all that a bus tells without a command.
type told struct {
	Down                bool
	Count, Bad, Members int
	Places              []placeTold
}

type placeTold struct {
	Dead   bool
	Serial int
	Zones  []api.Look
}

func tells(b *bus.Bus) told {
	all := told{Down: b.Down(), Count: b.Count(), Bad: b.Bad(), Members: b.Members()}
	for m := range b.Members() {
		p := placeTold{Dead: b.Dead(m), Serial: b.Serial(m)}
		for z := 0; ; z++ {
			look, ok := b.Look(m, z)
			if !ok {
				break
			}
			p.Zones = append(p.Zones, look)
		}
		all.Places = append(all.Places, p)
	}
	return all
}

// same checks that a bus tells just what it told.
func same(t *testing.T, what string, b *bus.Bus, was told) {
	t.Helper()
	if got, want := fmt.Sprintf("%+v", tells(b)), fmt.Sprintf("%+v", was); got != want {
		t.Errorf("%s:\ngot  %s\nwant %s", what, got, want)
	}
}

// texts reads all that the members hold; it makes commands. A lost member has
// nil.
func texts(t *testing.T, b *bus.Bus) [][]string {
	t.Helper()
	var all [][]string
	for m := range b.Members() {
		var zones []string
		for z := 0; ; z++ {
			look, ok := b.Look(m, z)
			if !ok {
				break
			}
			x, e := b.Read(m, z, 0, look.Wp)
			answers(t, fmt.Sprintf("Read of all of member %d, zone %d", m, z), e, api.OK)
			zones = append(zones, string(x))
		}
		all = append(all, zones)
	}
	return all
}

func holds(t *testing.T, what string, b *bus.Bus, want ...[]string) {
	t.Helper()
	if got := texts(t, b); fmt.Sprintf("%q", got) != fmt.Sprintf("%q", want) {
		t.Errorf("%s: got %q, want %q", what, got, want)
	}
}

// looks checks what is told of a zone that must be there.
func looks(t *testing.T, what string, b *bus.Bus, m, z int, want api.Look) {
	t.Helper()
	if got, ok := b.Look(m, z); !ok || got != want {
		t.Errorf("%s: Look(%d, %d): %+v, %t; want %+v", what, m, z, got, ok, want)
	}
}

// readAlone is Read's error; bytes beside one make it a number that none has.
func readAlone(b *bus.Bus, m, z, at, n int) api.Errno {
	x, e := b.Read(m, z, at, n)
	if e != api.OK && len(x) != 0 {
		return -1
	}
	return e
}

// call is a command, and what a member of mixed answers it that is there.
type call struct {
	name string
	do   func(b *bus.Bus, m int) api.Errno
	want api.Errno
}

// commands are all kinds of commands, those that a member refuses too.
func commands() []call {
	return []call{
		{"Append", func(b *bus.Bus, m int) api.Errno { return b.Append(m, 1, []byte("zz")) }, api.OK},
		{"Append of half", func(b *bus.Bus, m int) api.Errno { return b.Append(m, 1, []byte("z")) }, api.ErrAlign},
		{"Append of nil", func(b *bus.Bus, m int) api.Errno { return b.Append(m, 1, nil) }, api.ErrAlign},
		{"Append of much", func(b *bus.Bus, m int) api.Errno { return b.Append(m, 1, make([]byte, 100)) }, api.ErrFull},
		{"Append to a zone too many", func(b *bus.Bus, m int) api.Errno { return b.Append(m, 2, []byte("zz")) }, api.ErrActive},
		{"Append to no zone", func(b *bus.Bus, m int) api.Errno { return b.Append(m, 3, []byte("zz")) }, api.ErrZone},
		{"Append below", func(b *bus.Bus, m int) api.Errno { return b.Append(m, least, nil) }, api.ErrZone},
		{"Read", func(b *bus.Bus, m int) api.Errno { return readAlone(b, m, 0, 0, 1) }, api.OK},
		{"Read of none", func(b *bus.Bus, m int) api.Errno { return readAlone(b, m, 2, 0, 0) }, api.OK},
		{"Read below", func(b *bus.Bus, m int) api.Errno { return readAlone(b, m, 0, -1, 1) }, api.ErrRange},
		{"Read beyond", func(b *bus.Bus, m int) api.Errno { return readAlone(b, m, 0, greatest, greatest) }, api.ErrRange},
		{"Read of no zone", func(b *bus.Bus, m int) api.Errno { return readAlone(b, m, -1, 0, 0) }, api.ErrZone},
		{"Flush", func(b *bus.Bus, m int) api.Errno { return b.Flush(m) }, api.OK},
		{"Reset", func(b *bus.Bus, m int) api.Errno { return b.Reset(m, 0) }, api.OK},
		{"Reset of no zone", func(b *bus.Bus, m int) api.Errno { return b.Reset(m, greatest) }, api.ErrZone},
		{"Finish", func(b *bus.Bus, m int) api.Errno { return b.Finish(m, 1) }, api.OK},
		{"Finish of no zone", func(b *bus.Bus, m int) api.Errno { return b.Finish(m, -1) }, api.ErrZone},
	}
}

// mixed is four members, each of three zones of four blocks of two bytes, of
// which two are in use, as many as may be. Nine commands counted.
func mixed(t *testing.T) *bus.Bus {
	t.Helper()
	b := made(t, 4, 3, 4, 2, 2)
	for m := range 4 {
		add(t, b, m, 0, fmt.Sprintf("a%da%d", m, m))
		add(t, b, m, 1, fmt.Sprintf("b%d", m))
	}
	flush(t, b, 1, 1)
	counts(t, "mixed", b, 9, 0)
	return b
}

func mixedTexts() [][]string {
	return [][]string{{"a0a0", "b0", ""}, {"a1a1", "b1", ""}, {"a2a2", "b2", ""}, {"a3a3", "b3", ""}}
}

// P6.1: New

func TestNew(t *testing.T) {
	for _, c := range []struct {
		members, zones, room, block, limit int
		want                               api.Errno
	}{
		{1, 1, 1, 1, 1, api.OK},
		{2, 1, 1, 1, 1, api.OK},
		{3, 2, 4, 1, 2, api.OK},
		{api.MaxMembers - 1, 2, 2, 2, 2, api.OK},
		{api.MaxMembers, 2, 2, 2, 2, api.OK},
		{api.MaxMembers, api.MaxZones, api.MaxCap, api.MaxBlock, greatest, api.OK},
		{1, api.MaxZones, 1, 1, 1, api.OK},
		{1, 1, api.MaxCap, 1, 1, api.OK},
		{1, 1, 1, api.MaxBlock, 1, api.OK},

		{0, 2, 2, 2, 2, api.ErrArg},
		{-1, 2, 2, 2, 2, api.ErrArg},
		{least, 2, 2, 2, 2, api.ErrArg},
		{api.MaxMembers + 1, 2, 2, 2, 2, api.ErrArg},
		{greatest, 2, 2, 2, 2, api.ErrArg},
		{2, 0, 2, 2, 2, api.ErrArg},
		{2, -1, 2, 2, 2, api.ErrArg},
		{2, least, 2, 2, 2, api.ErrArg},
		{2, api.MaxZones + 1, 2, 2, 2, api.ErrArg},
		{2, greatest, 2, 2, 2, api.ErrArg},
		{2, 2, 0, 2, 2, api.ErrArg},
		{2, 2, -1, 2, 2, api.ErrArg},
		{2, 2, least, 2, 2, api.ErrArg},
		{2, 2, api.MaxCap + 1, 2, 2, api.ErrArg},
		{2, 2, greatest, 2, 2, api.ErrArg},
		{2, 2, 2, 0, 2, api.ErrArg},
		{2, 2, 2, -1, 2, api.ErrArg},
		{2, 2, 2, least, 2, api.ErrArg},
		{2, 2, 2, api.MaxBlock + 1, 2, api.ErrArg},
		{2, 2, 2, greatest, 2, api.ErrArg},
		{2, 2, 2, 2, 0, api.ErrArg},
		{2, 2, 2, 2, -1, api.ErrArg},
		{2, 2, 2, 2, least, api.ErrArg},
		{1, 0, 0, 0, 0, api.ErrArg},
		{api.MaxMembers, 0, 2, 2, 2, api.ErrArg},
		{0, 0, 0, 0, 0, api.ErrArg},
		{least, least, least, least, least, api.ErrArg},
		{greatest, greatest, greatest, greatest, greatest, api.ErrArg},
	} {
		what := fmt.Sprintf("New(%d, %d, %d, %d, %d)", c.members, c.zones, c.room, c.block, c.limit)
		b, e := bus.New(c.members, c.zones, c.room, c.block, c.limit)
		answers(t, what, e, c.want)
		if (b != nil) != (e == api.OK) {
			t.Errorf("%s: a bus is there: %t, beside %d", what, b != nil, int(e))
		}
		if b == nil {
			continue
		}
		fresh := told{Members: c.members, Places: make([]placeTold, c.members)}
		for m := range fresh.Places {
			fresh.Places[m].Zones = make([]api.Look, c.zones)
		}
		same(t, what, b, fresh)
	}
}

// TestNewMakesMembersSo: each member takes just what zdev.New's would.
func TestNewMakesMembersSo(t *testing.T) {
	for _, c := range []struct{ members, zones, room, block, limit int }{
		{1, 1, 1, 1, 1}, {2, 3, 5, 2, 1}, {3, 5, 2, 3, 4}, {api.MaxMembers, 4, 3, 5, 2},
	} {
		b := made(t, c.members, c.zones, c.room, c.block, c.limit)
		bad := 0
		for m := range c.members {
			d, _ := zdev.New(c.zones, c.room, c.block, c.limit)
			for z := range c.zones + 1 {
				for _, n := range []int{c.room*c.block + c.block, c.block + 1, c.block, c.room * c.block} {
					x := make([]byte, n)
					what := fmt.Sprintf("%+v: Append of %d bytes to member %d, zone %d", c, n, m, z)
					answers(t, what, b.Append(m, z, x), d.Append(z, x))
				}
			}
			bad += d.Bad()
		}
		counts(t, "all members", b, 4*c.members*(c.zones+1), bad)
	}
}

// TestBusesKeepApart: New is pure, and no bus sees another's calls.
func TestBusesKeepApart(t *testing.T) {
	a, b := mixed(t), mixed(t)
	was := tells(b)
	add(t, a, 0, 0, "xx")
	answers(t, "Append", a.Append(1, 9, []byte("yy")), api.ErrZone)
	killed(t, a, 2)
	answers(t, "Replace", a.Replace(2), api.OK)
	a.Kill(3, 1)
	a.Fuse(0)
	answers(t, "Flush", a.Flush(0), api.ErrPower)
	same(t, "the other", b, was)
	a.Crash(nil)
	same(t, "the other", b, was)
	holds(t, "the other", b, mixedTexts()...)
	same(t, "a new one", mixed(t), was)
}

// P6.1: commands

func TestExample(t *testing.T) {
	b := made(t, 1, 1, 1, 1, 1)
	b.Fuse(1)
	answers(t, "the first", b.Flush(0), api.OK)
	answers(t, "the second", b.Flush(0), api.ErrPower)
	down(t, "behind them", b, true)
	counts(t, "behind them", b, 1, 0)
}

// TestCommandsReachTheirMember: and no other one.
func TestCommandsReachTheirMember(t *testing.T) {
	for m := range 4 {
		b := mixed(t)
		want := mixedTexts()
		add(t, b, m, 0, "xxyy")
		want[m][0] += "xxyy"
		holds(t, "appended", b, want...)

		x, e := b.Read(m, 0, 1, 2)
		answers(t, "Read", e, api.OK)
		if w := want[m][0][2:6]; string(x) != w {
			t.Errorf("Read: %q, want %q", x, w)
		}

		was := tells(b)
		flush(t, b, m, 1)
		was.Count++
		was.Places[m].Zones[0].Safe, was.Places[m].Zones[1].Safe = 4, 1
		same(t, "flushed", b, was)

		answers(t, "Reset", b.Reset(m, 1), api.OK)
		was.Count++
		was.Places[m].Zones[1] = api.Look{}
		same(t, "reset", b, was)

		answers(t, "Finish", b.Finish(m, 2), api.OK)
		was.Count++
		was.Places[m].Zones[2].Done = true
		same(t, "finished", b, was)
		want[m][1] = ""
		holds(t, "at the end", b, want...)
	}
}

// TestCommandsCount: one each, whatever the member answers.
func TestCommandsCount(t *testing.T) {
	for _, c := range commands() {
		for m := range 4 {
			b := mixed(t)
			bad := 0
			if c.want != api.OK {
				bad = 1
			}
			answers(t, c.name, c.do(b, m), c.want)
			counts(t, c.name, b, 10, bad)
			killed(t, b, m)
			answers(t, c.name+" to a lost one", c.do(b, m), api.ErrDead)
			counts(t, c.name+" to a lost one", b, 11, bad)
		}
	}
}

// TestCommandsBurnTheFuse: one each, whatever the member answers.
func TestCommandsBurnTheFuse(t *testing.T) {
	for _, c := range commands() {
		b := mixed(t)
		b.Fuse(2)
		answers(t, c.name, c.do(b, 0), c.want)
		killed(t, b, 1)
		answers(t, c.name+" to a lost one", c.do(b, 1), api.ErrDead)
		down(t, c.name, b, false)
		was := tells(b)
		answers(t, c.name+" at the end", c.do(b, 2), api.ErrPower)
		was.Down = true
		same(t, c.name, b, was)
	}
}

// TestRefusedChangesNothing: with an error of the member's nothing but the
// counts changes.
func TestRefusedChangesNothing(t *testing.T) {
	b := mixed(t)
	was := tells(b)
	for _, c := range commands() {
		if c.want == api.OK {
			continue
		}
		answers(t, c.name, c.do(b, 3), c.want)
		was.Count++
		was.Bad++
		same(t, c.name, b, was)
	}
	holds(t, "behind all of them", b, mixedTexts()...)
}

// TestTellingIsNoCommand: it neither counts, nor burns the fuse, nor brings a
// loss nearer.
func TestTellingIsNoCommand(t *testing.T) {
	b := mixed(t)
	b.Fuse(2)
	b.Kill(1, 1)
	was := tells(b)
	for range 5 {
		same(t, "told again", b, was)
		b.Look(9, 9)
		b.Look(-1, 0)
		b.Look(0, -1)
		b.Dead(-1)
		b.Serial(-1)
		answers(t, "Replace", b.Replace(9), api.ErrArg)
		answers(t, "Replace", b.Replace(0), api.ErrState)
	}
	flush(t, b, 1, 1)
	answers(t, "the second", b.Flush(1), api.ErrDead)
	answers(t, "the third", b.Flush(0), api.ErrPower)
	counts(t, "all", b, 11, 0)
}

// TestSettingIsNoCommand: nor do Fuse, Kill, Crash and Replace count.
func TestSettingIsNoCommand(t *testing.T) {
	b := mixed(t)
	b.Kill(1, 1)
	b.Fuse(3)
	b.Kill(2, 0)
	answers(t, "Replace", b.Replace(2), api.OK)
	b.Crash([]byte{1})
	b.Fuse(2)
	counts(t, "set", b, 9, 0)
	dead(t, "set", b, 1, false)
	flush(t, b, 1, 1)
	answers(t, "the second", b.Flush(1), api.ErrDead)
	answers(t, "the third", b.Flush(0), api.ErrPower)
}

// Wrong members, and nil

// TestMemberNumbers: there are just the members from 0 on; what goes to others
// does not count, and changes nothing.
func TestMemberNumbers(t *testing.T) {
	for _, members := range []int{1, 2, 4, api.MaxMembers} {
		b := made(t, members, 3, 4, 2, 1)
		add(t, b, members-1, 0, "aabb")
		b.Fuse(2)
		b.Kill(members-1, 2)
		was := tells(b)
		for _, m := range []int{least, -api.MaxMembers, -members, -1, members, members + 1, api.MaxMembers, greatest} {
			for _, c := range commands() {
				what := fmt.Sprintf("%s, member %d of %d", c.name, m, members)
				answers(t, what, c.do(b, m), api.ErrArg)
			}
			answers(t, "Replace", b.Replace(m), api.ErrArg)
			for _, n := range []int{least, -1, 0, 1, 2, greatest} {
				b.Kill(m, n)
			}
			for _, z := range []int{least, -1, 0, 1, greatest} {
				if look, ok := b.Look(m, z); ok || look != (api.Look{}) {
					t.Errorf("Look(%d, %d): %+v, %t", m, z, look, ok)
				}
			}
			dead(t, "no member", b, m, true)
			if b.Serial(m) != 0 {
				t.Errorf("Serial(%d): %d", m, b.Serial(m))
			}
			same(t, fmt.Sprintf("member %d of %d", m, members), b, was)
		}
		x, e := b.Read(members-1, 0, 0, 2)
		if e != api.OK || string(x) != "aabb" {
			t.Errorf("the last one of %d: %q, %d", members, x, int(e))
		}
		flush(t, b, members-1, 1)
		answers(t, "the fuse's end", b.Flush(0), api.ErrPower)
		b.Crash(nil)
		answers(t, "the member's end", b.Flush(members-1), api.ErrDead)
		answers(t, "Replace of the last one", b.Replace(members-1), api.OK)
		if b.Serial(members-1) != 1 {
			t.Errorf("Serial of the last one: %d", b.Serial(members-1))
		}
	}
}

func TestNilBus(t *testing.T) {
	var b *bus.Bus
	for range 2 {
		for _, m := range []int{least, -1, 0, 1, api.MaxMembers, greatest} {
			for _, c := range commands() {
				answers(t, c.name, c.do(b, m), api.ErrNil)
			}
			answers(t, "Replace", b.Replace(m), api.ErrNil)
			dead(t, "nil", b, m, true)
			for _, z := range []int{least, -1, 0, greatest} {
				if look, ok := b.Look(m, z); ok || look != (api.Look{}) {
					t.Errorf("Look(%d, %d): %+v, %t", m, z, look, ok)
				}
			}
			for _, n := range []int{least, -1, 0, 1, greatest} {
				b.Kill(m, n)
				b.Fuse(n)
			}
			if b.Serial(m) != 0 {
				t.Errorf("Serial(%d): %d", m, b.Serial(m))
			}
		}
		down(t, "nil", b, true)
		counts(t, "nil", b, 0, 0)
		if b.Members() != 0 {
			t.Errorf("Members: %d", b.Members())
		}
		b.Crash(nil)
		b.Crash([]byte{1, 2})
	}
	down(t, "nil, crashed", b, true)
}

// TestFirstError: that of the member's number, of the power, then the member's
// own, in which ErrDead comes first.
func TestFirstError(t *testing.T) {
	for _, c := range commands() {
		b := mixed(t)
		killed(t, b, 1)
		answers(t, c.name+" to a lost one", c.do(b, 1), api.ErrDead)
		b.Fuse(0)
		answers(t, c.name+" to none, the fuse is 0", c.do(b, 4), api.ErrArg)
		down(t, c.name+" to none, the fuse is 0", b, false)
		answers(t, c.name+" to a lost one, the fuse is 0", c.do(b, 1), api.ErrPower)
		down(t, c.name+" to a lost one, the fuse is 0", b, true)
		answers(t, c.name+" to none, the power is down", c.do(b, -1), api.ErrArg)
		answers(t, c.name+" to a lost one, the power is down", c.do(b, 1), api.ErrPower)
		answers(t, c.name+" to one, the power is down", c.do(b, 0), api.ErrPower)
		counts(t, c.name, b, 10, 0)
	}
}

// P6.2: the fuse

func TestFuse(t *testing.T) {
	for _, n := range []int{0, 1, 2, 3, 7} {
		b := made(t, 2, 1, 9, 1, 1)
		b.Fuse(n)
		for i := range n {
			add(t, b, i%2, 0, "x")
			down(t, fmt.Sprintf("Fuse(%d), %d behind it", n, i+1), b, false)
		}
		// The power goes with the next command, not ahead of it.
		down(t, "ahead of the next", b, false)
		for range 3 {
			answers(t, fmt.Sprintf("Fuse(%d), the next", n), b.Append(0, 0, []byte("y")), api.ErrPower)
			down(t, "behind it", b, true)
			counts(t, "behind it", b, n, 0)
			looks(t, "behind it", b, 0, 0, api.Look{Wp: (n + 1) / 2})
		}
	}
}

func TestNoFuse(t *testing.T) {
	for _, n := range []int{-1, -2, least, greatest} {
		b := made(t, 2, 1, 1, 1, 1)
		b.Fuse(n)
		flush(t, b, 0, 300)
		b.Fuse(n)
		flush(t, b, 1, 300)
		down(t, "no fuse", b, false)
		counts(t, "no fuse", b, 600, 0)
	}
	b := made(t, 1, 1, 1, 1, 1)
	flush(t, b, 0, 300)
	down(t, "none was ever set", b, false)
}

// TestFuseAgain: a later one takes the place of the first.
func TestFuseAgain(t *testing.T) {
	for _, first := range []int{least, -1, 0, 1, 2, 5, greatest} {
		for _, then := range []int{least, -1, 0, 1, 2, 5, greatest} {
			for _, between := range []int{0, 1, 2} {
				if first >= 0 && between > first {
					continue
				}
				b := made(t, 1, 1, 1, 1, 1)
				b.Fuse(first)
				flush(t, b, 0, between)
				b.Fuse(then)
				what := fmt.Sprintf("Fuse(%d), %d commands, Fuse(%d)", first, between, then)
				if then < 0 || then > 5 {
					flush(t, b, 0, 20)
					down(t, what, b, false)
					continue
				}
				flush(t, b, 0, then)
				down(t, what, b, false)
				answers(t, what, b.Flush(0), api.ErrPower)
				down(t, what, b, true)
				counts(t, what, b, between+then, 0)
			}
		}
	}
}

// TestFuseWhileDown: no fuse brings the power back, and Crash leaves none.
func TestFuseWhileDown(t *testing.T) {
	for _, n := range []int{least, -1, 0, 1, 5, greatest} {
		b := mixed(t)
		b.Fuse(0)
		answers(t, "Flush", b.Flush(0), api.ErrPower)
		was := tells(b)
		for range 3 {
			b.Fuse(n)
			same(t, "set while down", b, was)
			for _, c := range commands() {
				answers(t, c.name, c.do(b, 2), api.ErrPower)
			}
		}
		b.Crash(nil)
		down(t, "crashed", b, false)
		flush(t, b, 0, 20)
		down(t, "used again", b, false)
		counts(t, "used again", b, 29, 0)
	}
}

// TestFuseOverMembers: there is one for all members.
func TestFuseOverMembers(t *testing.T) {
	b := made(t, 3, 1, 1, 1, 1)
	b.Fuse(4)
	for _, m := range []int{2, 0, 0, 1} {
		flush(t, b, m, 1)
	}
	for m := range 3 {
		answers(t, "the power is down for all", b.Flush(m), api.ErrPower)
	}
}

// P6.2: losses

func TestKill(t *testing.T) {
	for _, n := range []int{least, -1, 0} {
		b := mixed(t)
		b.Kill(2, n)
		what := fmt.Sprintf("Kill(2, %d)", n)
		for m := range 4 {
			dead(t, what, b, m, m == 2)
		}
		if look, ok := b.Look(2, 0); ok || look != (api.Look{}) {
			t.Errorf("%s: Look: %+v, %t", what, look, ok)
		}
		counts(t, what, b, 9, 0)
		want := mixedTexts()
		want[2] = nil
		holds(t, what, b, want...)
		answers(t, what, b.Flush(2), api.ErrDead)
	}
}

// TestKillAhead: n commands find the member there, to whom they go, and the
// next one finds it lost.
func TestKillAhead(t *testing.T) {
	for _, n := range []int{1, 2, 3, 8} {
		for _, other := range []bool{false, true} {
			b := mixed(t)
			b.Kill(1, n)
			what := fmt.Sprintf("Kill(1, %d), commands to another: %t", n, other)
			to := 1
			if other {
				to = 3
			}
			for range n {
				dead(t, what, b, 1, false)
				flush(t, b, to, 1)
			}
			// It is lost with the next command, not ahead of it.
			dead(t, what, b, 1, false)
			looks(t, what, b, 1, 0, api.Look{Wp: 2, Safe: 2})
			want := api.ErrDead
			if other {
				want = api.OK
			}
			answers(t, what, b.Flush(to), want)
			for m := range 4 {
				dead(t, what, b, m, m == 1)
			}
			counts(t, what, b, 9+n+1, 0)
			answers(t, what, b.Flush(1), api.ErrDead)
			flush(t, b, 0, 20)
			dead(t, what, b, 0, false)
		}
	}
}

// TestKillFarAhead: the greatest number is far enough, however many commands
// counted ahead of it.
func TestKillFarAhead(t *testing.T) {
	b := mixed(t)
	b.Kill(1, greatest)
	flush(t, b, 0, 50)
	b.Kill(2, greatest)
	b.Kill(3, greatest-1)
	flush(t, b, 0, 300)
	for m := range 4 {
		dead(t, "far ahead", b, m, false)
	}
	b.Kill(1, 1)
	flush(t, b, 1, 1)
	answers(t, "a nearer one", b.Flush(1), api.ErrDead)
}

// TestLaterKill: it takes the place of one whose time has not come.
func TestLaterKill(t *testing.T) {
	for _, first := range []int{1, 2, 5, greatest} {
		for _, between := range []int{0, 1, 2} {
			for _, then := range []int{least, -1, 0, 1, 2, 9} {
				if between > first {
					continue
				}
				b := mixed(t)
				b.Kill(1, first)
				flush(t, b, 1, between)
				b.Kill(1, then)
				what := fmt.Sprintf("Kill(1, %d), %d commands, Kill(1, %d)", first, between, then)
				if then > 0 {
					flush(t, b, 1, then)
				}
				dead(t, what, b, 1, then <= 0)
				answers(t, what, b.Flush(1), api.ErrDead)
				dead(t, what, b, 1, true)
			}
		}
	}
}

// TestKillOfALostOne: it stays lost, and what was ahead does not come to the
// one that is put in its place.
func TestKillOfALostOne(t *testing.T) {
	for _, n := range []int{least, -1, 0, 1, 2, greatest} {
		b := mixed(t)
		answers(t, "a bad one", b.Reset(1, 9), api.ErrZone)
		killed(t, b, 1)
		was := tells(b)
		b.Kill(1, n)
		same(t, fmt.Sprintf("Kill(1, %d) of a lost one", n), b, was)
		flush(t, b, 0, 1)
		dead(t, "still", b, 1, true)
		answers(t, "Replace", b.Replace(1), api.OK)
		flush(t, b, 1, 20)
		dead(t, "replaced", b, 1, false)
	}
}

// TestKillTwoAtOnce: two members whose time comes at one command.
func TestKillTwoAtOnce(t *testing.T) {
	b := mixed(t)
	b.Kill(0, 3)
	flush(t, b, 2, 1)
	b.Kill(3, 2)
	flush(t, b, 2, 2)
	dead(t, "ahead", b, 0, false)
	dead(t, "ahead", b, 3, false)
	flush(t, b, 2, 1)
	for m := range 4 {
		dead(t, "behind", b, m, m == 0 || m == 3)
	}
	want := mixedTexts()
	want[0], want[3] = nil, nil
	holds(t, "behind", b, want...)

	b = mixed(t)
	for m := range 4 {
		b.Kill(m, 4-m)
	}
	for i := range 4 {
		answers(t, "to the first", b.Flush(0), api.OK)
		for m := range 4 {
			dead(t, fmt.Sprintf("%d commands", i+1), b, m, i+1 > 4-m)
		}
	}
	answers(t, "to the first", b.Flush(0), api.ErrDead)
	answers(t, "to the last", b.Flush(3), api.ErrDead)
	counts(t, "all lost", b, 15, 0)
}

// TestKillMeetsEachCommand: whichever the command is whose time it comes at,
// it is not done.
func TestKillMeetsEachCommand(t *testing.T) {
	for _, c := range commands() {
		b := mixed(t)
		b.Kill(0, 1)
		flush(t, b, 0, 1)
		answers(t, c.name, c.do(b, 0), api.ErrDead)
		counts(t, c.name, b, 11, 0)
	}
}

// TestRefusedBringsNoLossNearer: what is answered ErrNil, ErrArg or ErrPower
// does not count; what the member refuses does.
func TestRefusedBringsNoLossNearer(t *testing.T) {
	b := mixed(t)
	b.Kill(1, 2)
	for range 9 {
		answers(t, "no member", b.Flush(4), api.ErrArg)
	}
	b.Fuse(0)
	for range 9 {
		answers(t, "no power", b.Flush(1), api.ErrPower)
	}
	dead(t, "none counted", b, 1, false)
	b.Crash(nil)
	dead(t, "crashed", b, 1, false)
	answers(t, "the first", b.Reset(0, 9), api.ErrZone)
	answers(t, "the second", b.Append(0, 0, nil), api.ErrAlign)
	dead(t, "two counted", b, 1, false)
	answers(t, "the third", b.Append(1, 0, []byte("xx")), api.ErrDead)
	counts(t, "all", b, 12, 2)
}

// TestKillAndFuse: where the power fails at the command whose time has come,
// the member is lost with the next one that counts.
func TestKillAndFuse(t *testing.T) {
	b := mixed(t)
	b.Kill(1, 1)
	b.Fuse(1)
	flush(t, b, 1, 1)
	answers(t, "the power's end", b.Flush(1), api.ErrPower)
	dead(t, "no power", b, 1, false)
	answers(t, "Replace", b.Replace(1), api.ErrState)
	b.Crash(nil)
	dead(t, "crashed", b, 1, false)
	answers(t, "the member's end", b.Flush(1), api.ErrDead)

	b = mixed(t)
	b.Kill(1, 1)
	b.Fuse(2)
	flush(t, b, 0, 1)
	answers(t, "the member's end", b.Flush(1), api.ErrDead)
	answers(t, "the power's end", b.Flush(1), api.ErrPower)
	dead(t, "no power", b, 1, true)
}

// TestKillWhileDown: it asks for no power.
func TestKillWhileDown(t *testing.T) {
	b := mixed(t)
	b.Fuse(0)
	answers(t, "Flush", b.Flush(0), api.ErrPower)
	b.Kill(0, 0)
	b.Kill(1, 1)
	dead(t, "at once", b, 0, true)
	dead(t, "ahead", b, 1, false)
	down(t, "still", b, true)
	answers(t, "still", b.Flush(0), api.ErrPower)
	b.Crash(nil)
	flush(t, b, 2, 1)
	dead(t, "ahead", b, 1, false)
	answers(t, "its time", b.Flush(1), api.ErrDead)
}

// TestDead: of all members, each way that there is to lose one.
func TestDead(t *testing.T) {
	b := mixed(t)
	for m := range 4 {
		dead(t, "new", b, m, false)
	}
	b.Kill(0, 0)
	b.Kill(1, 1)
	flush(t, b, 2, 2)
	b.Fuse(0)
	answers(t, "Flush", b.Flush(2), api.ErrPower)
	for range 2 {
		for m, want := range []bool{true, true, false, false, true} {
			dead(t, "lost", b, m, want)
		}
		dead(t, "below", b, -1, true)
		b.Crash([]byte{3})
	}
}

// TestLook: the member's, whatever the power.
func TestLook(t *testing.T) {
	b := mixed(t)
	answers(t, "Finish", b.Finish(3, 2), api.OK)
	check := func(what string) {
		t.Helper()
		looks(t, what, b, 0, 0, api.Look{Wp: 2})
		looks(t, what, b, 0, 1, api.Look{Wp: 1})
		looks(t, what, b, 0, 2, api.Look{})
		looks(t, what, b, 1, 0, api.Look{Wp: 2, Safe: 2})
		looks(t, what, b, 1, 1, api.Look{Wp: 1, Safe: 1})
		looks(t, what, b, 3, 2, api.Look{Done: true})
		for _, z := range []int{least, -1, 3, greatest} {
			if look, ok := b.Look(0, z); ok || look != (api.Look{}) {
				t.Errorf("%s: Look(0, %d): %+v, %t", what, z, look, ok)
			}
		}
		counts(t, what, b, 10, 0)
	}
	check("powered")
	b.Fuse(0)
	check("the fuse is 0")
	down(t, "the fuse is 0", b, false)
	answers(t, "Flush", b.Flush(0), api.ErrPower)
	check("down")
}

// TestBad: of all members, lost ones and replaced ones too.
func TestBad(t *testing.T) {
	b := mixed(t)
	bad := func(m, n int) {
		t.Helper()
		for range n {
			answers(t, "a bad one", b.Reset(m, 9), api.ErrZone)
		}
	}
	bad(0, 1)
	bad(1, 2)
	bad(3, 4)
	counts(t, "three members", b, 16, 7)
	killed(t, b, 1)
	counts(t, "one is lost", b, 16, 7)
	answers(t, "to the lost one", b.Reset(1, 9), api.ErrDead)
	counts(t, "it tells no more", b, 17, 7)
	answers(t, "Replace", b.Replace(1), api.OK)
	counts(t, "replaced", b, 17, 7)
	bad(1, 8)
	counts(t, "the new one's too", b, 25, 15)
	killed(t, b, 1)
	answers(t, "Replace", b.Replace(1), api.OK)
	bad(1, 1)
	killed(t, b, 3)
	answers(t, "Replace", b.Replace(3), api.OK)
	counts(t, "replaced again, and another", b, 26, 16)
	b.Crash(nil)
	counts(t, "crashed", b, 26, 16)
	answers(t, "no member", b.Reset(4, 9), api.ErrArg)
	b.Fuse(0)
	answers(t, "no power", b.Reset(0, 9), api.ErrPower)
	answers(t, "Replace", b.Replace(0), api.ErrState)
	answers(t, "Replace", b.Replace(9), api.ErrArg)
	counts(t, "those are not bad", b, 26, 16)
}

// P6.3: Crash

// loose is three members of four zones, with three blocks in each zone, none
// of them safe.
func loose(t *testing.T) *bus.Bus {
	t.Helper()
	b := made(t, 3, 4, 9, 1, 4)
	for m := range 3 {
		for z := range 4 {
			add(t, b, m, z, "abc")
		}
	}
	return b
}

// stays checks how many blocks each zone of each member has, all of them safe.
func stays(t *testing.T, what string, b *bus.Bus, want [3][4]int) {
	t.Helper()
	for m, zones := range want {
		for z, n := range zones {
			looks(t, what, b, m, z, api.Look{Wp: n, Safe: n})
		}
	}
	all := make([][]string, 3)
	for m, zones := range want {
		for _, n := range zones {
			all[m] = append(all[m], "abc"[:n])
		}
	}
	holds(t, what, b, all...)
}

func TestCrash(t *testing.T) {
	for _, c := range []struct {
		name string
		keep []byte
		want [3][4]int
	}{
		{"nil", nil, [3][4]int{}},
		{"no bytes", []byte{}, [3][4]int{}},
		{"one byte", []byte{2}, [3][4]int{{2, 2, 2, 2}, {2, 2, 2, 2}, {2, 2, 2, 2}}},
		{"one great byte", []byte{255}, [3][4]int{{3, 3, 3, 3}, {3, 3, 3, 3}, {3, 3, 3, 3}}},
		{"two bytes", []byte{1, 3}, [3][4]int{{1, 3, 1, 3}, {3, 1, 3, 1}, {1, 3, 1, 3}}},
		{"as many as members", []byte{1, 2, 3}, [3][4]int{{1, 2, 3, 1}, {2, 3, 1, 2}, {3, 1, 2, 3}}},
		{"as many as zones", []byte{0, 1, 2, 3}, [3][4]int{{0, 1, 2, 3}, {1, 2, 3, 0}, {2, 3, 0, 1}}},
		{"more", []byte{0, 1, 2, 3, 3, 0}, [3][4]int{{0, 1, 2, 3}, {1, 2, 3, 3}, {2, 3, 3, 0}}},
		{"many more", []byte{3, 2, 1, 0, 1, 2, 3, 3, 3}, [3][4]int{{3, 2, 1, 0}, {2, 1, 0, 1}, {1, 0, 1, 2}}},
		{"above what is loose", []byte{4, 5, 6, 7}, [3][4]int{{0, 1, 2, 3}, {1, 2, 3, 0}, {2, 3, 0, 1}}},
	} {
		for _, power := range []string{"up", "down", "fuse left", "fuse 0"} {
			b := loose(t)
			switch power {
			case "down":
				b.Fuse(0)
				answers(t, "Flush", b.Flush(0), api.ErrPower)
			case "fuse left":
				b.Fuse(2)
			case "fuse 0":
				b.Fuse(0)
			}
			what := c.name + ", power " + power
			b.Crash(c.keep)
			down(t, what, b, false)
			counts(t, what, b, 12, 0)
			stays(t, what, b, c.want)
			flush(t, b, 1, 9)
			down(t, what, b, false)
			b.Crash([]byte{9, 8, 7})
			stays(t, what+", crashed again", b, c.want)
			add(t, b, 2, 3, "x")
			looks(t, what+", written again", b, 2, 3, api.Look{Wp: c.want[2][3] + 1, Safe: c.want[2][3]})
		}
	}
}

// TestCrashOfManyMembers: keep is turned as often as it takes.
func TestCrashOfManyMembers(t *testing.T) {
	for n := range 40 {
		b := made(t, api.MaxMembers, 3, 9, 1, 3)
		keep := make([]byte, n)
		for i := range keep {
			keep[i] = byte(i * 7)
		}
		for m := range api.MaxMembers {
			for z := range 3 {
				add(t, b, m, z, "12345678")
			}
		}
		b.Crash(keep)
		for m := range api.MaxMembers {
			for z := range 3 {
				want := 0
				if n > 0 {
					want = int(keep[(m+z)%n]) % 9
				}
				looks(t, fmt.Sprintf("%d bytes", n), b, m, z, api.Look{Wp: want, Safe: want})
			}
		}
	}
}

// TestCrashKeepsWhatIsSafe: and what is finished.
func TestCrashKeepsWhatIsSafe(t *testing.T) {
	b := loose(t)
	flush(t, b, 1, 1)
	add(t, b, 1, 0, "de")
	answers(t, "Finish", b.Finish(2, 1), api.OK)
	b.Crash([]byte{1})
	looks(t, "the first one", b, 0, 0, api.Look{Wp: 1, Safe: 1})
	looks(t, "flushed, and one more", b, 1, 0, api.Look{Wp: 4, Safe: 4})
	looks(t, "flushed", b, 1, 1, api.Look{Wp: 3, Safe: 3})
	looks(t, "finished", b, 2, 1, api.Look{Wp: 3, Safe: 3, Done: true})
	looks(t, "beside it", b, 2, 0, api.Look{Wp: 1, Safe: 1})
}

// TestCrashLeavesLosses: a lost one stays lost, the turn of the others is by
// their own places, and what is ahead of a member stays ahead.
func TestCrashLeavesLosses(t *testing.T) {
	b := loose(t)
	killed(t, b, 0)
	b.Kill(1, 2)
	b.Crash([]byte{1, 2, 3})
	dead(t, "crashed", b, 0, true)
	dead(t, "crashed", b, 1, false)
	for z, n := range []int{2, 3, 1, 2} {
		looks(t, "crashed", b, 1, z, api.Look{Wp: n, Safe: n})
	}
	for z, n := range []int{3, 1, 2, 3} {
		looks(t, "crashed", b, 2, z, api.Look{Wp: n, Safe: n})
	}
	flush(t, b, 1, 1)
	b.Crash(nil)
	flush(t, b, 1, 1)
	b.Crash(nil)
	dead(t, "crashed again", b, 1, false)
	answers(t, "its time", b.Flush(1), api.ErrDead)
	b.Crash([]byte{1})
	answers(t, "lost", b.Flush(0), api.ErrDead)
	answers(t, "lost", b.Flush(1), api.ErrDead)
	if b.Serial(0) != 0 || b.Serial(1) != 0 {
		t.Error("Crash replaced a member")
	}
}

// P6.3: Replace

func TestReplace(t *testing.T) {
	for m := range 4 {
		b := mixed(t)
		answers(t, "Finish", b.Finish(m, 0), api.OK)
		answers(t, "a bad one", b.Reset(m, 9), api.ErrZone)
		was := tells(b)
		answers(t, "Replace of one that is not lost", b.Replace(m), api.ErrState)
		same(t, "Replace of one that is not lost", b, was)
		for serial := range 5 {
			if b.Serial(m) != serial {
				t.Errorf("Serial(%d): %d, want %d", m, b.Serial(m), serial)
			}
			killed(t, b, m)
			if b.Serial(m) != serial {
				t.Errorf("lost: Serial(%d): %d, want %d", m, b.Serial(m), serial)
			}
			answers(t, "Replace", b.Replace(m), api.OK)
			was.Places[m] = placeTold{Serial: serial + 1, Zones: make([]api.Look, 3)}
			same(t, "replaced", b, was)
			answers(t, "Replace again", b.Replace(m), api.ErrState)
			same(t, "replaced, and again", b, was)
		}
		want := mixedTexts()
		want[m] = []string{"", "", ""}
		holds(t, "replaced", b, want...)
	}
}

// TestReplacedIsAsNew: the new member has as many zones, of as many blocks, as
// the one that was lost, and the limit of its own.
func TestReplacedIsAsNew(t *testing.T) {
	b := mixed(t)
	killed(t, b, 1)
	answers(t, "Replace", b.Replace(1), api.OK)
	answers(t, "half a block", b.Append(1, 0, []byte("x")), api.ErrAlign)
	answers(t, "too many blocks", b.Append(1, 0, make([]byte, 10)), api.ErrFull)
	answers(t, "no zone", b.Append(1, 3, []byte("xx")), api.ErrZone)
	add(t, b, 1, 2, "xx")
	add(t, b, 1, 0, "yy")
	answers(t, "a zone too many", b.Append(1, 1, []byte("zz")), api.ErrActive)
	add(t, b, 1, 1, "11223344")
	want := mixedTexts()
	want[1] = []string{"yy", "11223344", "xx"}
	holds(t, "used", b, want...)
}

// TestReplaceOfNone: there is no such place, lost members or not.
func TestReplaceOfNone(t *testing.T) {
	b := mixed(t)
	killed(t, b, 0)
	killed(t, b, 3)
	was := tells(b)
	for _, m := range []int{least, -1, 4, api.MaxMembers, greatest} {
		answers(t, fmt.Sprintf("Replace(%d)", m), b.Replace(m), api.ErrArg)
	}
	same(t, "replaced none", b, was)
}

// TestReplaceLeavesNoKill: what was ahead of the lost one is not ahead of the
// new one; what is ahead of others stays.
func TestReplaceLeavesNoKill(t *testing.T) {
	b := mixed(t)
	b.Kill(1, 3)
	b.Kill(2, 3)
	b.Kill(1, 0)
	b.Kill(1, 2)
	answers(t, "Replace", b.Replace(1), api.OK)
	flush(t, b, 1, 3)
	dead(t, "ahead", b, 2, false)
	flush(t, b, 1, 1)
	dead(t, "another's time", b, 2, true)
	flush(t, b, 1, 9)
	dead(t, "replaced", b, 1, false)
	b.Kill(1, 1)
	flush(t, b, 1, 1)
	answers(t, "a Kill of the new one", b.Flush(1), api.ErrDead)
	answers(t, "Replace", b.Replace(1), api.OK)
	flush(t, b, 1, 9)

	// One whose time has not come is not lost, so that it is not replaced,
	// and its time stays.
	b = mixed(t)
	b.Kill(1, 1)
	answers(t, "Replace", b.Replace(1), api.ErrState)
	flush(t, b, 1, 1)
	answers(t, "Replace", b.Replace(1), api.ErrState)
	answers(t, "its time", b.Flush(1), api.ErrDead)
	answers(t, "Replace", b.Replace(1), api.OK)
	flush(t, b, 1, 9)
}

// TestReplaceWhileDown: it asks for no power, and brings none, nor does it
// touch the fuse.
func TestReplaceWhileDown(t *testing.T) {
	b := mixed(t)
	killed(t, b, 1)
	b.Fuse(0)
	answers(t, "Flush", b.Flush(0), api.ErrPower)
	answers(t, "one that is there", b.Replace(0), api.ErrState)
	answers(t, "none", b.Replace(4), api.ErrArg)
	answers(t, "the lost one", b.Replace(1), api.OK)
	dead(t, "replaced", b, 1, false)
	down(t, "replaced", b, true)
	looks(t, "replaced", b, 1, 0, api.Look{})
	if b.Serial(1) != 1 {
		t.Errorf("Serial(1): %d", b.Serial(1))
	}
	answers(t, "still down", b.Flush(1), api.ErrPower)
	counts(t, "still down", b, 9, 0)

	b = mixed(t)
	killed(t, b, 1)
	b.Fuse(1)
	answers(t, "the lost one", b.Replace(1), api.OK)
	flush(t, b, 1, 1)
	answers(t, "the fuse stayed", b.Flush(1), api.ErrPower)
}

// TestReplacedCrashes: by its place, as the lost one would have.
func TestReplacedCrashes(t *testing.T) {
	b := loose(t)
	killed(t, b, 1)
	answers(t, "Replace", b.Replace(1), api.OK)
	for z := range 4 {
		add(t, b, 1, z, "abc")
	}
	b.Crash([]byte{0, 1, 2, 3})
	stays(t, "crashed", b, [3][4]int{{0, 1, 2, 3}, {1, 2, 3, 0}, {2, 3, 0, 1}})
}

// TestMembersAndSerial: how many there are does not change.
func TestMembersAndSerial(t *testing.T) {
	b := mixed(t)
	check := func(what string, serials ...int) {
		t.Helper()
		if b.Members() != 4 {
			t.Errorf("%s: Members: %d", what, b.Members())
		}
		for m, want := range serials {
			if b.Serial(m) != want {
				t.Errorf("%s: Serial(%d): %d, want %d", what, m, b.Serial(m), want)
			}
		}
		for _, m := range []int{least, -1, 4, 5, greatest} {
			if b.Serial(m) != 0 {
				t.Errorf("%s: Serial(%d): %d", what, m, b.Serial(m))
			}
		}
	}
	check("new", 0, 0, 0, 0)
	killed(t, b, 3)
	killed(t, b, 0)
	check("lost", 0, 0, 0, 0)
	answers(t, "Replace", b.Replace(3), api.OK)
	check("replaced", 0, 0, 0, 1)
	answers(t, "Replace", b.Replace(0), api.OK)
	killed(t, b, 3)
	answers(t, "Replace", b.Replace(3), api.OK)
	check("replaced again", 1, 0, 0, 2)
	b.Fuse(0)
	answers(t, "Flush", b.Flush(0), api.ErrPower)
	check("down", 1, 0, 0, 2)
	b.Crash(nil)
	check("crashed", 1, 0, 0, 2)
}

// P6.4

// TestNothingIsDoneBehindErrPower: no command does anything up to a Crash, and
// what it leaves is what was done ahead.
func TestNothingIsDoneBehindErrPower(t *testing.T) {
	for n := range 10 {
		for _, c := range commands() {
			b, other := loose(t), loose(t)
			b.Fuse(n)
			for i := range n {
				x := string(byte('d' + i))
				add(t, b, i%3, i%4, x)
				add(t, other, i%3, i%4, x)
			}
			answers(t, c.name, c.do(b, 1), api.ErrPower)
			was := tells(b)
			for i := range 30 {
				d := commands()[i%len(commands())]
				answers(t, d.name+", the power is down", d.do(b, i%3), api.ErrPower)
				same(t, d.name+", the power is down", b, was)
			}
			b.Crash([]byte{4, 0, 3})
			other.Crash([]byte{4, 0, 3})
			same(t, "crashed", b, tells(other))
			holds(t, "crashed", b, texts(t, other)...)
		}
	}
}

// chance is a row of numbers by a fixed rule.
type chance uint32

func (c *chance) below(n int) int {
	*c = *c*1664525 + 1013904223
	return int(*c>>8) % n
}

func (c *chance) bytes(n int) []byte {
	x := make([]byte, n)
	for i := range x {
		x[i] = byte(c.below(256))
	}
	return x
}

// twin is a bus as the chapter tells it: when things come about is told by the
// count of commands.
type twin struct {
	zones, room, block, limit int
	devs                      []*zdev.Dev
	killAt                    []int // the count that finds the member lost; 0: none
	serials                   []int
	fuseAt                    int // the count that is not reached any more; 0: none
	down                      bool
	count, gone               int
}

func newTwin(c *chance) *twin {
	w := &twin{zones: 1 + c.below(3), room: 1 + c.below(4), block: 1 + c.below(3), limit: 1 + c.below(3)}
	for range 1 + c.below(5) {
		w.devs = append(w.devs, w.empty())
	}
	w.killAt, w.serials = make([]int, len(w.devs)), make([]int, len(w.devs))
	return w
}

func (w *twin) empty() *zdev.Dev {
	d, _ := zdev.New(w.zones, w.room, w.block, w.limit)
	return d
}

func (w *twin) has(m int) bool { return m >= 0 && m < len(w.devs) }

// enter is the error with which a command does not come to its member.
func (w *twin) enter(m int) api.Errno {
	if !w.has(m) {
		return api.ErrArg
	}
	if w.down || w.fuseAt == w.count+1 {
		w.down = true
		return api.ErrPower
	}
	w.count++
	for i, at := range w.killAt {
		if at != 0 && w.count >= at {
			w.devs[i].Kill()
			w.killAt[i] = 0
		}
	}
	return api.OK
}

func (w *twin) kill(m, n int) {
	if !w.has(m) {
		return
	}
	w.killAt[m] = w.count + n + 1
	if n <= 0 {
		w.killAt[m] = 0
		w.devs[m].Kill()
	}
}

func (w *twin) fuse(n int) {
	w.fuseAt = w.count + n + 1
	if n < 0 {
		w.fuseAt = 0
	}
}

func (w *twin) crash(keep []byte) {
	for m, d := range w.devs {
		var own []byte
		for i := range keep {
			own = append(own, keep[(i+m)%len(keep)])
		}
		d.Crash(own)
	}
	w.down, w.fuseAt = false, 0
}

func (w *twin) replace(m int) api.Errno {
	if !w.has(m) {
		return api.ErrArg
	}
	if !w.devs[m].Dead() {
		return api.ErrState
	}
	w.gone += w.devs[m].Bad()
	w.devs[m] = w.empty()
	w.killAt[m] = 0
	w.serials[m]++
	return api.OK
}

func (w *twin) tells() told {
	all := told{Down: w.down, Count: w.count, Bad: w.gone, Members: len(w.devs)}
	for m, d := range w.devs {
		all.Bad += d.Bad()
		p := placeTold{Dead: d.Dead(), Serial: w.serials[m]}
		for z := range w.zones {
			if look, ok := d.Look(z); ok {
				p.Zones = append(p.Zones, look)
			}
		}
		all.Places = append(all.Places, p)
	}
	return all
}

// move makes one call on both.
func move(t *testing.T, c *chance, b *bus.Bus, w *twin) {
	t.Helper()
	m, z := c.below(len(w.devs)), c.below(w.zones+2)-1
	if c.below(10) == 0 {
		m = c.below(2*len(w.devs)+4) - len(w.devs) - 2
	}
	switch k := c.below(24); k {
	case 0:
		n := c.below(12) - 2
		b.Fuse(n)
		w.fuse(n)
	case 1:
		n := c.below(12) - 2
		b.Kill(m, n)
		w.kill(m, n)
	case 2, 3:
		keep := c.bytes(c.below(7))
		b.Crash(keep)
		w.crash(keep)
	case 4, 5:
		answers(t, "Replace", b.Replace(m), w.replace(m))
	default:
		e := w.enter(m)
		command(t, c, b, w, e, k-6, m, z)
	}
}

// command makes one that comes to its member, if e is none.
func command(t *testing.T, c *chance, b *bus.Bus, w *twin, e api.Errno, kind, m, z int) {
	t.Helper()
	d, _ := zdev.New(1, 1, 1, 1)
	if e == api.OK {
		d = w.devs[m]
	}
	told := func(f api.Errno) api.Errno {
		if e != api.OK {
			return e
		}
		return f
	}
	switch kind {
	case 0:
		answers(t, "Reset", b.Reset(m, z), told(d.Reset(z)))
	case 1:
		answers(t, "Finish", b.Finish(m, z), told(d.Finish(z)))
	case 2, 3:
		answers(t, "Flush", b.Flush(m), told(d.Flush()))
	case 4, 5, 6, 7:
		at, n := c.below(w.room+2)-1, c.below(w.room+2)-1
		want, f := d.Read(z, at, n)
		if e != api.OK {
			want = nil
		}
		got, g := b.Read(m, z, at, n)
		answers(t, "Read", g, told(f))
		if !bytes.Equal(got, want) {
			t.Errorf("Read(%d, %d, %d, %d): %q, want %q", m, z, at, n, got, want)
		}
	default:
		n := w.block * (1 + c.below(2))
		if kind == 8 {
			n = c.below(w.room*w.block + 2)
		}
		x := c.bytes(n)
		answers(t, "Append", b.Append(m, z, x), told(d.Append(z, x)))
	}
}

// TestTwin makes many calls in many orders: all is as the twin has it.
func TestTwin(t *testing.T) {
	c := chance(11)
	downs, losses, replaced := 0, 0, 0
	for range 300 {
		w := newTwin(&c)
		b := made(t, len(w.devs), w.zones, w.room, w.block, w.limit)
		for range 120 {
			move(t, &c, b, w)
			same(t, "behind a call", b, w.tells())
			if t.Failed() {
				t.FailNow()
			}
			if w.down {
				downs++
			}
			for m, d := range w.devs {
				if d.Dead() {
					losses++
				}
				replaced += w.serials[m]
			}
		}
		alike(t, b, w)
	}
	if downs == 0 || losses == 0 || replaced == 0 {
		t.Errorf("too little came about: %d, %d, %d", downs, losses, replaced)
	}
}

// alike reads all that is there, with neither a failure nor a loss ahead.
func alike(t *testing.T, b *bus.Bus, w *twin) {
	t.Helper()
	b.Crash(nil)
	w.crash(nil)
	for m := range w.devs {
		b.Kill(m, greatest)
	}
	for m, d := range w.devs {
		for z := range w.zones {
			look, ok := d.Look(z)
			if !ok {
				continue
			}
			want, _ := d.Read(z, 0, look.Wp)
			got, e := b.Read(m, z, 0, look.Wp)
			if e != api.OK || !bytes.Equal(got, want) {
				t.Fatalf("member %d, zone %d: %q, %d; want %q", m, z, got, int(e), want)
			}
		}
	}
}

// TestFromCallsAlone: the same calls are answered the same, whatever another
// bus is asked in between.
func TestFromCallsAlone(t *testing.T) {
	c1, c2, c3 := chance(3), chance(3), chance(8)
	w1, w2, w3 := newTwin(&c1), newTwin(&c2), newTwin(&c3)
	make1 := func(w *twin) *bus.Bus { return made(t, len(w.devs), w.zones, w.room, w.block, w.limit) }
	b1, b2, b3 := make1(w1), make1(w2), make1(w3)
	for range 300 {
		move(t, &c1, b1, w1)
		move(t, &c3, b3, w3)
		move(t, &c2, b2, w2)
		same(t, "the second one", b2, tells(b1))
	}
}

// Memory

// spoil writes over a list and its spare room.
func spoil(x []byte) {
	x = x[:cap(x)]
	for i := range x {
		x[i] ^= 0xee
	}
}

// TestAppendKeepsNothing: what is appended is neither changed nor kept, its
// spare room included, whether it is taken or not.
func TestAppendKeepsNothing(t *testing.T) {
	for _, m := range []int{-1, 0, 1, 3, 4} {
		for _, z := range []int{-1, 0, 1, 2, 3} {
			for n := range 13 {
				for _, power := range []bool{true, false} {
					b := mixed(t)
					killed(t, b, 3)
					if !power {
						b.Fuse(0)
					}
					room := []byte("0123456789abcdef")
					b.Append(m, z, room[:n])
					if string(room) != "0123456789abcdef" {
						t.Errorf("Append(%d, %d) of %d bytes changed them: %q", m, z, n, room)
					}
					b.Crash([]byte{255})
					was := texts(t, b)
					spoil(room)
					holds(t, fmt.Sprintf("Append(%d, %d) of %d bytes, which were written over", m, z, n), b, was...)
				}
			}
		}
	}
}

// TestAppendsKeepApart: one list that is appended to many members, written over
// in between.
func TestAppendsKeepApart(t *testing.T) {
	b := made(t, 2, 2, 8, 2, 2)
	x := make([]byte, 2, 16)
	for i := range 4 {
		for m := range 2 {
			for z := range 2 {
				x[0], x[1] = byte('a'+i), byte('0'+2*m+z)
				answers(t, "Append", b.Append(m, z, x), api.OK)
			}
		}
	}
	holds(t, "written", b, []string{"a0b0c0d0", "a1b1c1d1"}, []string{"a2b2c2d2", "a3b3c3d3"})
}

// TestReadsInNewMemory: a write to an answer, or to its spare room, is seen
// neither in a member nor in another answer; nor does a later call change an
// answer.
func TestReadsInNewMemory(t *testing.T) {
	b := mixed(t)
	for m, zones := range mixedTexts() {
		for z, want := range zones {
			for n := range len(want)/2 + 1 {
				first, _ := b.Read(m, z, 0, n)
				second, _ := b.Read(m, z, 0, n)
				spoil(append(first, '?'))
				spoil(first)
				if string(second) != want[:2*n] {
					t.Errorf("two answers of member %d, zone %d share memory", m, z)
				}
				holds(t, "an answer written over", b, mixedTexts()...)
			}
		}
	}
	kept, _ := b.Read(1, 0, 0, 2)
	add(t, b, 1, 0, "xx")
	b.Crash(nil)
	add(t, b, 1, 0, "yy")
	flush(t, b, 1, 1)
	answers(t, "Reset", b.Reset(1, 0), api.OK)
	add(t, b, 1, 0, "zzzz")
	killed(t, b, 1)
	answers(t, "Replace", b.Replace(1), api.OK)
	add(t, b, 1, 0, "wwww")
	if string(kept) != "a1a1" {
		t.Errorf("an answer changed behind later calls: %q", kept)
	}
}

// TestAnswersBesideAppends: what is written to an answer's spare room does not
// come to blocks that are appended later.
func TestAnswersBesideAppends(t *testing.T) {
	b := made(t, 2, 1, 20, 1, 1)
	want := ""
	for i := range 20 {
		more := string(byte('a' + i))
		add(t, b, 1, 0, more)
		want += more
		x, e := b.Read(1, 0, 0, i+1)
		if e != api.OK || string(x) != want {
			t.Fatalf("Read: %q, %d", x, int(e))
		}
		spoil(append(x, '?'))
		spoil(x)
		holds(t, "an answer written over", b, []string{""}, []string{want})
	}
}

// TestCrashKeepsNothing: the bytes that say what stays are neither changed nor
// kept, and their spare room plays no part.
func TestCrashKeepsNothing(t *testing.T) {
	for n := range 9 {
		room := []byte{1, 2, 3, 0, 1, 3, 2, 0, 3, 2, 1, 0}
		was := bytes.Clone(room)
		b, other := loose(t), loose(t)
		b.Crash(room[:n])
		if !bytes.Equal(room, was) {
			t.Errorf("Crash changed its bytes: %v", room)
		}
		other.Crash(slices.Clip(bytes.Clone(room[:n])))
		same(t, "with no spare room", other, tells(b))
		held := tells(b)
		spoil(room)
		same(t, "bytes written over", b, held)
		b.Crash(nil)
		same(t, "crashed again", b, held)
	}
}

// TestZeroBus: what it answers is open, but every call ends.
func TestZeroBus(t *testing.T) {
	b := &bus.Bus{}
	for _, m := range []int{least, -1, 0, 1, greatest} {
		for _, c := range commands() {
			c.do(b, m)
		}
		b.Look(m, 0)
		b.Dead(m)
		b.Serial(m)
		b.Kill(m, m)
		b.Fuse(m)
		b.Replace(m)
	}
	b.Crash([]byte{1, 2})
	b.Crash(nil)
	b.Down()
	b.Count()
	b.Bad()
	b.Members()
}

// TestGreatestBus: as many members as may be, of the greatest zones.
func TestGreatestBus(t *testing.T) {
	b := made(t, api.MaxMembers, api.MaxZones, api.MaxCap, api.MaxBlock, 1)
	last := api.MaxMembers - 1
	one := bytes.Repeat([]byte{7}, api.MaxBlock)
	answers(t, "all but one", b.Append(last, api.MaxZones-1, make([]byte, (api.MaxCap-1)*api.MaxBlock)), api.OK)
	answers(t, "another zone", b.Append(last, 0, one), api.ErrActive)
	answers(t, "another member", b.Append(0, 0, one), api.OK)
	answers(t, "the last block", b.Append(last, api.MaxZones-1, one), api.OK)
	answers(t, "a block more", b.Append(last, api.MaxZones-1, one), api.ErrFull)
	x, e := b.Read(last, api.MaxZones-1, api.MaxCap-1, 1)
	if e != api.OK || !bytes.Equal(x, one) {
		t.Errorf("the last block: %d bytes, %d", len(x), int(e))
	}
	counts(t, "the greatest", b, 6, 2)
}
