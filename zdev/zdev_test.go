package zdev_test

import (
	"bytes"
	"fmt"
	"math"
	"slices"
	"testing"

	"revetment/api"
	"revetment/zdev"
)

const (
	least    = math.MinInt
	greatest = math.MaxInt
)

// made is a member that must come about.
func made(t *testing.T, zones, room, block, limit int) *zdev.Dev {
	t.Helper()
	d, e := zdev.New(zones, room, block, limit)
	if e != api.OK || d == nil {
		t.Fatalf("New(%d, %d, %d, %d): %d", zones, room, block, limit, e)
	}
	return d
}

// add appends what must be taken.
func add(t *testing.T, d *zdev.Dev, z int, b string) {
	t.Helper()
	answers(t, fmt.Sprintf("Append of %q to zone %d", b, z), d.Append(z, []byte(b)), api.OK)
}

func answers(t *testing.T, what string, got, want api.Errno) {
	t.Helper()
	if got != want {
		t.Errorf("%s: got %d, want %d", what, int(got), int(want))
	}
}

// seen is what a zone holds and what is told of it.
type seen struct {
	text string
	safe int
	done bool
}

// zoneOf reads all of a zone that must be there.
func zoneOf(t *testing.T, d *zdev.Dev, z int) seen {
	t.Helper()
	look, ok := d.Look(z)
	if !ok {
		t.Fatalf("there is no zone %d", z)
	}
	b, e := d.Read(z, 0, look.Wp)
	if e != api.OK {
		t.Fatalf("Read of all of zone %d: %d", z, int(e))
	}
	return seen{string(b), look.Safe, look.Done}
}

// holds checks all zones of a member.
func holds(t *testing.T, what string, d *zdev.Dev, want ...seen) {
	t.Helper()
	for z, w := range want {
		if got := zoneOf(t, d, z); got != w {
			t.Errorf("%s: zone %d: got %+v, want %+v", what, z, got, w)
		}
	}
	if _, ok := d.Look(len(want)); ok {
		t.Errorf("%s: more zones than %d", what, len(want))
	}
}

// counts checks how many zones are in use, and how many calls were bad.
func counts(t *testing.T, what string, d *zdev.Dev, active, bad int) {
	t.Helper()
	if d.Active() != active || d.Bad() != bad {
		t.Errorf("%s: Active %d, Bad %d; want %d, %d", what, d.Active(), d.Bad(), active, bad)
	}
}

// whole is all that a member tells of its zones.
func whole(t *testing.T, d *zdev.Dev) []seen {
	t.Helper()
	var all []seen
	for z := 0; ; z++ {
		if _, ok := d.Look(z); !ok {
			return all
		}
		all = append(all, zoneOf(t, d, z))
	}
}

// mixed is a member of seven zones of four blocks of two bytes, of which three
// are in use, as many as may be.
func mixed(t *testing.T) *zdev.Dev {
	t.Helper()
	d := made(t, 7, 4, 2, 3)
	add(t, d, 1, "aa")
	add(t, d, 3, "ccddeeff")
	add(t, d, 4, "gg")
	answers(t, "Finish", d.Finish(4), api.OK)
	answers(t, "Finish", d.Finish(5), api.OK)
	answers(t, "Flush", d.Flush(), api.OK)
	add(t, d, 1, "bb")
	add(t, d, 2, "hhii")
	add(t, d, 6, "jjkkll")
	mixedHolds(t, "mixed", d)
	counts(t, "mixed", d, 3, 0)
	return d
}

func mixedZones() []seen {
	return []seen{
		{"", 0, false},
		{"aabb", 1, false},
		{"hhii", 0, false},
		{"ccddeeff", 4, false},
		{"gg", 1, true},
		{"", 0, true},
		{"jjkkll", 0, false},
	}
}

func mixedHolds(t *testing.T, what string, d *zdev.Dev) {
	t.Helper()
	holds(t, what, d, mixedZones()...)
}

// P5.1: New

func TestNew(t *testing.T) {
	for _, c := range []struct {
		zones, room, block, limit int
		want                      api.Errno
	}{
		{1, 1, 1, 1, api.OK},
		{2, 4, 1, 1, api.OK},
		{3, 4, 2, 2, api.OK},
		{2, 4, 1, 2, api.OK},
		{2, 4, 1, 3, api.OK},
		{1, 1, 1, 1 << 30, api.OK},
		{2, 2, 2, greatest, api.OK},
		{api.MaxZones, 2, 2, 2, api.OK},
		{api.MaxZones, 2, 2, api.MaxZones, api.OK},
		{api.MaxZones, 2, 2, api.MaxZones + 1, api.OK},
		{2, api.MaxCap, 2, 2, api.OK},
		{2, 2, api.MaxBlock, 2, api.OK},
		{api.MaxZones, api.MaxCap, api.MaxBlock, greatest, api.OK},

		{0, 2, 2, 2, api.ErrArg},
		{-1, 2, 2, 2, api.ErrArg},
		{least, 2, 2, 2, api.ErrArg},
		{api.MaxZones + 1, 2, 2, 2, api.ErrArg},
		{greatest, 2, 2, 2, api.ErrArg},
		{2, 0, 2, 2, api.ErrArg},
		{2, -1, 2, 2, api.ErrArg},
		{2, least, 2, 2, api.ErrArg},
		{2, api.MaxCap + 1, 2, 2, api.ErrArg},
		{2, greatest, 2, 2, api.ErrArg},
		{2, 2, 0, 2, api.ErrArg},
		{2, 2, -1, 2, api.ErrArg},
		{2, 2, least, 2, api.ErrArg},
		{2, 2, api.MaxBlock + 1, 2, api.ErrArg},
		{2, 2, greatest, 2, api.ErrArg},
		{2, 2, 2, 0, api.ErrArg},
		{2, 2, 2, -1, api.ErrArg},
		{2, 2, 2, least, api.ErrArg},
		{0, 0, 0, 0, api.ErrArg},
		{least, least, least, least, api.ErrArg},
		{greatest, greatest, greatest, greatest, api.ErrArg},
	} {
		what := fmt.Sprintf("New(%d, %d, %d, %d)", c.zones, c.room, c.block, c.limit)
		d, e := zdev.New(c.zones, c.room, c.block, c.limit)
		answers(t, what, e, c.want)
		if (d != nil) != (e == api.OK) {
			t.Errorf("%s: a member is there: %t, beside %d", what, d != nil, int(e))
		}
		if d == nil {
			continue
		}
		holds(t, what, d, make([]seen, c.zones)...)
		counts(t, what, d, 0, 0)
		if d.Dead() {
			t.Errorf("%s: it is lost", what)
		}
	}
}

// TestNewTakesItsBlocks: each zone takes just as much as was asked for.
func TestNewTakesItsBlocks(t *testing.T) {
	for _, c := range []struct{ zones, room, block int }{
		{1, 1, 1}, {1, 1, 5}, {2, 3, 5}, {3, 5, 1}, {api.MaxZones, 2, 3}, {2, api.MaxCap, 2}, {2, 2, api.MaxBlock},
	} {
		d := made(t, c.zones, c.room, c.block, 1)
		size := c.room * c.block
		bad := 0
		for z := range c.zones {
			answers(t, "a block more than all", d.Append(z, make([]byte, size+c.block)), api.ErrFull)
			bad++
			if c.block > 1 {
				answers(t, "a byte less than all", d.Append(z, make([]byte, size-1)), api.ErrAlign)
				bad++
			}
			answers(t, "all of it", d.Append(z, make([]byte, size)), api.OK)
			if look, ok := d.Look(z); !ok || look != (api.Look{Wp: c.room}) {
				t.Errorf("%+v: zone %d: %+v, %t", c, z, look, ok)
			}
			answers(t, "a block more", d.Append(z, make([]byte, c.block)), api.ErrFull)
			bad++
		}
		counts(t, "all zones full", d, 0, bad)
	}
}

// TestNewKeepsItsLimit: just so many zones may be in use, and all of them, if
// the limit is no less.
func TestNewKeepsItsLimit(t *testing.T) {
	for _, zones := range []int{1, 2, 5, api.MaxZones} {
		for _, limit := range []int{1, 2, 4, 5, 6, api.MaxZones - 1, api.MaxZones, api.MaxZones + 1, greatest} {
			d := made(t, zones, 2, 1, limit)
			for z := range zones {
				want := api.OK
				if z >= limit {
					want = api.ErrActive
				}
				answers(t, fmt.Sprintf("zone %d of %d, limit %d", z, zones, limit), d.Append(z, []byte("a")), want)
			}
			counts(t, "a block to each", d, min(zones, limit), zones-min(zones, limit))
		}
	}
}

// TestMembersKeepApart: New is pure, and no member sees another's calls.
func TestMembersKeepApart(t *testing.T) {
	a, b := made(t, 2, 4, 1, 1), made(t, 2, 4, 1, 1)
	add(t, a, 0, "x")
	answers(t, "Append", a.Append(1, []byte("y")), api.ErrActive)
	answers(t, "Finish", a.Finish(1), api.OK)
	holds(t, "the other", b, seen{}, seen{})
	counts(t, "the other", b, 0, 0)
	a.Kill()
	if b.Dead() {
		t.Error("both are lost")
	}
	add(t, b, 1, "z")
	holds(t, "the other", b, seen{}, seen{text: "z"})
	holds(t, "a new one", made(t, 2, 4, 1, 1), seen{}, seen{})
}

// P5.1: the calls

func TestExample(t *testing.T) {
	d := made(t, 2, 4, 1, 1)
	answers(t, "to zone 0", d.Append(0, []byte("a")), api.OK)
	answers(t, "to zone 1", d.Append(1, []byte("a")), api.ErrActive)
	holds(t, "the example", d, seen{text: "a"}, seen{})
	counts(t, "the example", d, 1, 1)
}

func TestAppendAndRead(t *testing.T) {
	d := made(t, 3, 4, 2, 3)
	add(t, d, 0, "aa")
	add(t, d, 2, "xxyyzzww")
	add(t, d, 0, "bbcc")
	holds(t, "appended", d, seen{text: "aabbcc"}, seen{}, seen{text: "xxyyzzww"})
	for _, c := range []struct {
		z, at, n int
		want     string
	}{
		{0, 0, 1, "aa"}, {0, 1, 1, "bb"}, {0, 1, 2, "bbcc"}, {0, 0, 3, "aabbcc"}, {0, 2, 0, ""}, {0, 3, 0, ""},
		{1, 0, 0, ""},
		{2, 0, 4, "xxyyzzww"}, {2, 3, 1, "ww"}, {2, 4, 0, ""},
	} {
		got, e := d.Read(c.z, c.at, c.n)
		if e != api.OK || string(got) != c.want {
			t.Errorf("Read(%d, %d, %d): %q, %d", c.z, c.at, c.n, got, int(e))
		}
	}
	counts(t, "all went well", d, 1, 0)
}

// TestAppendErrors: those of the zone, and nothing changes with them.
func TestAppendErrors(t *testing.T) {
	bad := 0
	d := mixed(t)
	for _, c := range []struct {
		z    int
		b    string
		want api.Errno
	}{
		{0, "", api.ErrAlign}, {0, "x", api.ErrAlign}, {0, "xxy", api.ErrAlign}, {0, "123456789", api.ErrAlign},
		{0, "1234567890", api.ErrFull},
		{1, "", api.ErrAlign}, {1, "x", api.ErrAlign}, {1, "112233", api.ErrFull}, {1, "1122334", api.ErrAlign},
		{3, "", api.ErrAlign}, {3, "x", api.ErrAlign}, {3, "xx", api.ErrFull},
		{4, "", api.ErrAlign}, {4, "x", api.ErrAlign}, {4, "xx", api.ErrFull},
		{5, "", api.ErrAlign}, {5, "x", api.ErrAlign}, {5, "xx", api.ErrFull}, {5, "xxyyzzww", api.ErrFull},
		{6, "x", api.ErrAlign}, {6, "xxyy", api.ErrFull},
	} {
		what := fmt.Sprintf("Append(%d, %q)", c.z, c.b)
		answers(t, what, d.Append(c.z, []byte(c.b)), c.want)
		bad++
		mixedHolds(t, what, d)
		counts(t, what, d, 3, bad)
	}
	answers(t, "Append of nil", d.Append(1, nil), api.ErrAlign)
	answers(t, "Append of room alone", d.Append(1, make([]byte, 0, 2)), api.ErrAlign)
	counts(t, "nil and room", d, 3, bad+2)
}

func TestReadErrors(t *testing.T) {
	bad := 0
	d := mixed(t)
	for _, c := range [][3]int{
		{0, 0, 1}, {0, 1, 0}, {0, -1, 0}, {0, 0, -1},
		{1, -1, 1}, {1, 0, -1}, {1, 0, 3}, {1, 1, 2}, {1, 2, 1}, {1, 3, 0}, {1, -1, -1},
		{1, least, 1}, {1, 0, least}, {1, greatest, 1}, {1, 1, greatest}, {1, greatest, greatest},
		{1, least, greatest}, {1, greatest, least}, {1, least, least},
		{3, 0, 5}, {3, 4, 1}, {3, 5, 0},
		{4, 0, 2}, {4, 1, 1}, {4, 2, 0},
		{5, 0, 1}, {5, 1, 0},
	} {
		what := fmt.Sprintf("Read(%d, %d, %d)", c[0], c[1], c[2])
		b, e := d.Read(c[0], c[1], c[2])
		answers(t, what, e, api.ErrRange)
		if len(b) != 0 {
			t.Errorf("%s: %q beside the error", what, b)
		}
		bad++
		mixedHolds(t, what, d)
		counts(t, what, d, 3, bad)
	}
}

// zoneCalls are the calls that name a zone, each as one that a zone of mixed's
// would refuse or not.
func zoneCalls() map[string]func(d *zdev.Dev, z int) api.Errno {
	return map[string]func(d *zdev.Dev, z int) api.Errno{
		"Append":         func(d *zdev.Dev, z int) api.Errno { return d.Append(z, []byte("xx")) },
		"Append of half": func(d *zdev.Dev, z int) api.Errno { return d.Append(z, []byte("x")) },
		"Append of none": func(d *zdev.Dev, z int) api.Errno { return d.Append(z, nil) },
		"Append of much": func(d *zdev.Dev, z int) api.Errno { return d.Append(z, make([]byte, 100)) },
		"Read":           func(d *zdev.Dev, z int) api.Errno { return readAlone(d, z, 0, 1) },
		"Read of none":   func(d *zdev.Dev, z int) api.Errno { return readAlone(d, z, 0, 0) },
		"Read below":     func(d *zdev.Dev, z int) api.Errno { return readAlone(d, z, -1, 1) },
		"Read beyond":    func(d *zdev.Dev, z int) api.Errno { return readAlone(d, z, 9, 9) },
		"Reset":          func(d *zdev.Dev, z int) api.Errno { return d.Reset(z) },
		"Finish":         func(d *zdev.Dev, z int) api.Errno { return d.Finish(z) },
	}
}

// readAlone is Read's error; bytes beside one make it a number that none has.
func readAlone(d *zdev.Dev, z, at, n int) api.Errno {
	b, e := d.Read(z, at, n)
	if e != api.OK && len(b) != 0 {
		return -1
	}
	return e
}

// TestZoneNumbers: there are just the zones from 0 on.
func TestZoneNumbers(t *testing.T) {
	for name, call := range zoneCalls() {
		d := mixed(t)
		for i, z := range []int{least, -8, -7, -1, 7, 8, 14, api.MaxZones, greatest} {
			what := fmt.Sprintf("%s, zone %d", name, z)
			answers(t, what, call(d, z), api.ErrZone)
			if look, ok := d.Look(z); ok || look != (api.Look{}) {
				t.Errorf("Look(%d): %+v, %t", z, look, ok)
			}
			mixedHolds(t, what, d)
			counts(t, what, d, 3, i+1)
		}
	}
	for _, zones := range []int{1, 2, api.MaxZones} {
		d := made(t, zones, 2, 1, 1)
		add(t, d, zones-1, "a")
		answers(t, "Append beyond the last one", d.Append(zones, []byte("a")), api.ErrZone)
		answers(t, "Finish of the last one", d.Finish(zones-1), api.OK)
		answers(t, "Finish beyond it", d.Finish(zones), api.ErrZone)
		answers(t, "Reset of the last one", d.Reset(zones-1), api.OK)
		answers(t, "Reset beyond it", d.Reset(zones), api.ErrZone)
		if _, ok := d.Look(zones - 1); !ok {
			t.Errorf("of %d zones the last one is not there", zones)
		}
		if _, ok := d.Look(zones); ok {
			t.Errorf("of %d zones there is one more", zones)
		}
		counts(t, "the last ones", d, 0, 3)
	}
}

func TestActiveLimit(t *testing.T) {
	d := mixed(t)
	answers(t, "to an empty zone, with three in use", d.Append(0, []byte("xx")), api.ErrActive)
	answers(t, "to it, up to one block less than all", d.Append(0, []byte("xxyyzz")), api.ErrActive)
	mixedHolds(t, "refused", d)
	counts(t, "refused", d, 3, 2)

	add(t, d, 1, "xx")
	counts(t, "to one that is in use", d, 3, 2)
	add(t, d, 0, "xxyyzzww")
	counts(t, "to an empty one, all of it", d, 3, 2)
	answers(t, "to a full one", d.Append(0, []byte("xx")), api.ErrFull)
	add(t, d, 1, "yy")
	counts(t, "one in use is full", d, 2, 3)
	answers(t, "Reset", d.Reset(0), api.OK)
	add(t, d, 0, "xx")
	counts(t, "its place is taken", d, 3, 3)
	answers(t, "Reset of a full one", d.Reset(3), api.OK)
	answers(t, "to it, with three in use", d.Append(3, []byte("xx")), api.ErrActive)
	answers(t, "Reset of a finished one", d.Reset(4), api.OK)
	answers(t, "to it, with three in use", d.Append(4, []byte("xx")), api.ErrActive)
	add(t, d, 4, "xxyyzzww")
	counts(t, "all in use stay", d, 3, 5)
}

// TestActiveLimitGivesWay: Finish and Reset of a zone in use make room for
// another one; of another zone they don't, nor do Flush and Read.
func TestActiveLimitGivesWay(t *testing.T) {
	for name, c := range map[string]struct {
		call func(d *zdev.Dev) api.Errno
		want api.Errno
	}{
		"Finish of one in use":     {func(d *zdev.Dev) api.Errno { return d.Finish(2) }, api.OK},
		"Reset of one in use":      {func(d *zdev.Dev) api.Errno { return d.Reset(2) }, api.OK},
		"the rest of one in use":   {func(d *zdev.Dev) api.Errno { return d.Append(2, []byte("jjkk")) }, api.OK},
		"Finish of a finished one": {func(d *zdev.Dev) api.Errno { return d.Finish(5) }, api.ErrActive},
		"Reset of a finished one":  {func(d *zdev.Dev) api.Errno { return d.Reset(5) }, api.ErrActive},
		"Finish of a full one":     {func(d *zdev.Dev) api.Errno { return d.Finish(3) }, api.ErrActive},
		"Reset of a full one":      {func(d *zdev.Dev) api.Errno { return d.Reset(3) }, api.ErrActive},
		"a block to one in use":    {func(d *zdev.Dev) api.Errno { return d.Append(2, []byte("jj")) }, api.ErrActive},
		"Flush":                    {func(d *zdev.Dev) api.Errno { return d.Flush() }, api.ErrActive},
		"Read":                     {func(d *zdev.Dev) api.Errno { return readAlone(d, 2, 0, 2) }, api.ErrActive},
	} {
		d := mixed(t)
		answers(t, name, c.call(d), api.OK)
		answers(t, name+", then a zone more", d.Append(0, []byte("xx")), c.want)
	}
}

// TestActiveLimitOfOneBlock: a zone of one block is never in use.
func TestActiveLimitOfOneBlock(t *testing.T) {
	d := made(t, 3, 1, 2, 1)
	for z := range 3 {
		add(t, d, z, "aa")
	}
	counts(t, "all full", d, 0, 0)
}

func TestFlush(t *testing.T) {
	d := mixed(t)
	answers(t, "Flush", d.Flush(), api.OK)
	want := mixedZones()
	for i := range want {
		want[i].safe = len(want[i].text) / 2
	}
	holds(t, "flushed", d, want...)
	counts(t, "flushed", d, 3, 0)
	answers(t, "Flush again", d.Flush(), api.OK)
	holds(t, "flushed again", d, want...)
	d.Crash(nil)
	holds(t, "crashed behind it", d, want...)
}

// TestFinish: all that the zone holds is safe, and it is finished, whatever it
// was; no other zone changes.
func TestFinish(t *testing.T) {
	for z, was := range mixedZones() {
		d := mixed(t)
		active := 3
		if z == 1 || z == 2 || z == 6 {
			active = 2
		}
		want := mixedZones()
		want[z] = seen{was.text, len(was.text) / 2, true}
		for range 2 {
			answers(t, "Finish", d.Finish(z), api.OK)
			holds(t, fmt.Sprintf("Finish(%d)", z), d, want...)
			counts(t, fmt.Sprintf("Finish(%d)", z), d, active, 0)
		}
		answers(t, "Append to it", d.Append(z, []byte("xx")), api.ErrFull)
	}
}

// TestReset: the zone is as a new one, whatever it was; no other zone changes.
func TestReset(t *testing.T) {
	for z := range mixedZones() {
		d := mixed(t)
		active := 3
		if z == 1 || z == 2 || z == 6 {
			active = 2
		}
		want := mixedZones()
		want[z] = seen{}
		for range 2 {
			answers(t, "Reset", d.Reset(z), api.OK)
			holds(t, fmt.Sprintf("Reset(%d)", z), d, want...)
			counts(t, fmt.Sprintf("Reset(%d)", z), d, active, 0)
		}
		add(t, d, z, "xxyyzzww")
		answers(t, "a block more than all", d.Append(z, []byte("vv")), api.ErrFull)
		want[z].text = "xxyyzzww"
		holds(t, fmt.Sprintf("Reset(%d), written", z), d, want...)
	}
}

// Errors, and their order

// TestNilMember: every method of a nil one.
func TestNilMember(t *testing.T) {
	var d *zdev.Dev
	for _, z := range []int{least, -1, 0, 1, greatest} {
		for name, call := range zoneCalls() {
			answers(t, name+" of nil", call(d, z), api.ErrNil)
		}
		if look, ok := d.Look(z); ok || look != (api.Look{}) {
			t.Errorf("Look(%d) of nil: %+v, %t", z, look, ok)
		}
	}
	answers(t, "Flush of nil", d.Flush(), api.ErrNil)
	for _, keep := range [][]byte{nil, {}, {0}, {1, 2, 3}} {
		d.Crash(keep)
	}
	d.Kill()
	if !d.Dead() {
		t.Error("nil is not lost")
	}
	counts(t, "nil", d, 0, 0)
	answers(t, "Flush of nil behind Kill", d.Flush(), api.ErrNil)
}

// TestLostMember: every method of one that is lost.
func TestLostMember(t *testing.T) {
	d := mixed(t)
	answers(t, "Append beyond", d.Append(7, nil), api.ErrZone)
	answers(t, "Append of half", d.Append(1, []byte("x")), api.ErrAlign)
	counts(t, "ahead of Kill", d, 3, 2)
	for range 2 {
		d.Kill()
		if !d.Dead() {
			t.Error("it is not lost")
		}
		counts(t, "lost", d, 0, 2)
		for _, z := range []int{least, -1, 0, 1, 2, 3, 4, 5, 6, 7, greatest} {
			for name, call := range zoneCalls() {
				answers(t, name+" of one that is lost", call(d, z), api.ErrDead)
			}
			if look, ok := d.Look(z); ok || look != (api.Look{}) {
				t.Errorf("Look(%d) of one that is lost: %+v, %t", z, look, ok)
			}
		}
		answers(t, "Flush of one that is lost", d.Flush(), api.ErrDead)
		for _, keep := range [][]byte{nil, {}, {0}, {1, 2, 3}} {
			d.Crash(keep)
		}
		if !d.Dead() {
			t.Error("a Crash brought it back")
		}
		counts(t, "lost, and all called", d, 0, 2)
	}
}

// TestErrorOrder: where several errors hold, that of nil, of one that is lost,
// of the zone's number, of the zone, and ErrActive, in this order.
func TestErrorOrder(t *testing.T) {
	var none *zdev.Dev
	lost := mixed(t)
	lost.Kill()
	d := mixed(t)
	for _, c := range []struct {
		d    *zdev.Dev
		z    int
		b    string
		want api.Errno
	}{
		{none, -1, "x", api.ErrNil},
		{none, 7, "", api.ErrNil},
		{lost, -1, "x", api.ErrDead},
		{lost, 7, "", api.ErrDead},
		{lost, 0, "xx", api.ErrDead},
		{d, -1, "x", api.ErrZone},
		{d, 7, "", api.ErrZone},
		{d, 7, "1234567890", api.ErrZone},
		{d, 7, "xx", api.ErrZone},
		{d, 0, "", api.ErrAlign},
		{d, 0, "xxy", api.ErrAlign},
		{d, 0, "123456789", api.ErrAlign},
		{d, 0, "1234567890", api.ErrFull},
		{d, 5, "x", api.ErrAlign},
		{d, 5, "xx", api.ErrFull},
		{d, 0, "xx", api.ErrActive},
	} {
		answers(t, fmt.Sprintf("Append(%d, %q)", c.z, c.b), c.d.Append(c.z, []byte(c.b)), c.want)
	}
	for _, c := range []struct {
		d    *zdev.Dev
		z    int
		want api.Errno
	}{
		{none, 7, api.ErrNil}, {lost, 7, api.ErrDead}, {d, 7, api.ErrZone}, {d, 0, api.ErrRange},
	} {
		answers(t, fmt.Sprintf("Read(%d, -1, 9)", c.z), readAlone(c.d, c.z, -1, 9), c.want)
	}
	mixedHolds(t, "all refused", d)
	counts(t, "all refused", d, 3, 13)
}

// P5.2

func TestKill(t *testing.T) {
	d := made(t, 2, 4, 1, 1)
	if d.Dead() {
		t.Error("a new one is lost")
	}
	answers(t, "Finish", d.Finish(0), api.OK)
	d.Crash([]byte{1})
	if d.Dead() {
		t.Error("behind a Crash it is lost")
	}
	d.Kill()
	if !d.Dead() {
		t.Error("behind Kill it is not lost")
	}
	d.Crash([]byte{1})
	d.Kill()
	if !d.Dead() {
		t.Error("it is not lost for good")
	}
}

func TestLook(t *testing.T) {
	d := mixed(t)
	for z, w := range mixedZones() {
		want := api.Look{Wp: len(w.text) / 2, Safe: w.safe, Done: w.done}
		if got, ok := d.Look(z); !ok || got != want {
			t.Errorf("Look(%d): %+v, %t, want %+v", z, got, ok, want)
		}
	}
	counts(t, "Look alone", d, 3, 0)
}

// TestBad: each of the five errors counts once, and nothing else does.
func TestBad(t *testing.T) {
	d := mixed(t)
	for _, c := range []struct {
		what string
		call func() api.Errno
		e    api.Errno
		more int
	}{
		{"Append", func() api.Errno { return d.Append(1, []byte("xx")) }, api.OK, 0},
		{"Append beyond", func() api.Errno { return d.Append(7, []byte("xx")) }, api.ErrZone, 1},
		{"Append of half", func() api.Errno { return d.Append(1, []byte("x")) }, api.ErrAlign, 1},
		{"Append of much", func() api.Errno { return d.Append(3, []byte("xx")) }, api.ErrFull, 1},
		{"Append of one too many", func() api.Errno { return d.Append(0, []byte("xx")) }, api.ErrActive, 1},
		{"the same again", func() api.Errno { return d.Append(0, []byte("xx")) }, api.ErrActive, 1},
		{"Read", func() api.Errno { return readAlone(d, 1, 0, 1) }, api.OK, 0},
		{"Read beyond", func() api.Errno { return readAlone(d, -1, 0, 1) }, api.ErrZone, 1},
		{"Read of much", func() api.Errno { return readAlone(d, 1, 0, 9) }, api.ErrRange, 1},
		{"Flush", func() api.Errno { return d.Flush() }, api.OK, 0},
		{"Finish", func() api.Errno { return d.Finish(1) }, api.OK, 0},
		{"Finish beyond", func() api.Errno { return d.Finish(7) }, api.ErrZone, 1},
		{"Reset", func() api.Errno { return d.Reset(1) }, api.OK, 0},
		{"Reset beyond", func() api.Errno { return d.Reset(-1) }, api.ErrZone, 1},
		{"Look", func() api.Errno { d.Look(0); return api.OK }, api.OK, 0},
		{"Look beyond", func() api.Errno { d.Look(7); d.Look(-1); return api.OK }, api.OK, 0},
		{"Crash", func() api.Errno { d.Crash([]byte{9}); return api.OK }, api.OK, 0},
		{"what is asked", func() api.Errno { d.Dead(); d.Active(); d.Bad(); return api.OK }, api.OK, 0},
		{"Kill", func() api.Errno { d.Kill(); return api.OK }, api.OK, 0},
		{"Append to one that is lost", func() api.Errno { return d.Append(7, nil) }, api.ErrDead, 0},
		{"Read of one that is lost", func() api.Errno { return readAlone(d, 7, 9, 9) }, api.ErrDead, 0},
		{"Flush of one that is lost", func() api.Errno { return d.Flush() }, api.ErrDead, 0},
		{"Finish of one that is lost", func() api.Errno { return d.Finish(7) }, api.ErrDead, 0},
		{"Reset of one that is lost", func() api.Errno { return d.Reset(7) }, api.ErrDead, 0},
	} {
		was := d.Bad()
		answers(t, c.what, c.call(), c.e)
		if got := d.Bad() - was; got != c.more {
			t.Errorf("%s: Bad is %d more, want %d", c.what, got, c.more)
		}
	}
}

// TestActive: behind each call that may change it.
func TestActive(t *testing.T) {
	d := made(t, 3, 3, 1, 3)
	for _, c := range []struct {
		what string
		call func()
		want int
	}{
		{"New", func() {}, 0},
		{"a block", func() { d.Append(0, []byte("a")) }, 1},
		{"a block more", func() { d.Append(0, []byte("b")) }, 1},
		{"another zone", func() { d.Append(2, []byte("cc")) }, 2},
		{"Flush", func() { d.Flush() }, 2},
		{"a full one", func() { d.Append(0, []byte("d")) }, 1},
		{"all at once", func() { d.Append(1, []byte("eee")) }, 1},
		{"refused", func() { d.Append(1, []byte("e")) }, 1},
		{"Finish", func() { d.Finish(2) }, 0},
		{"Finish of a full one", func() { d.Finish(1) }, 0},
		{"Reset of one that is finished", func() { d.Reset(2) }, 0},
		{"a zone again", func() { d.Append(2, []byte("f")) }, 1},
		{"Reset of a full one", func() { d.Reset(1) }, 1},
		{"two in use", func() { d.Append(1, []byte("g")) }, 2},
		{"Reset", func() { d.Reset(2) }, 1},
		{"Finish of an empty one", func() { d.Finish(2) }, 1},
		{"a Crash that keeps all", func() { d.Crash([]byte{1}) }, 1},
		{"three more blocks", func() { d.Reset(2); d.Append(2, []byte("h")) }, 2},
		{"a Crash that keeps none", func() { d.Crash(nil) }, 1},
		{"Kill", func() { d.Kill() }, 0},
	} {
		if c.call(); d.Active() != c.want {
			t.Errorf("behind %s: Active is %d, want %d", c.what, d.Active(), c.want)
		}
	}
}

// loose is a member of four zones of five blocks: the first one of each is
// safe, and behind it there are three that are not.
func loose(t *testing.T) *zdev.Dev {
	t.Helper()
	d := made(t, 4, 5, 1, 4)
	for z := range 4 {
		add(t, d, z, "a")
	}
	answers(t, "Flush", d.Flush(), api.OK)
	for z := range 4 {
		add(t, d, z, "bcd")
	}
	return d
}

func TestCrash(t *testing.T) {
	for _, c := range []struct {
		name string
		keep []byte
		want []string
	}{
		{"nil", nil, []string{"a", "a", "a", "a"}},
		{"no bytes", []byte{}, []string{"a", "a", "a", "a"}},
		{"no bytes, but room", []byte{1, 2, 3}[:0], []string{"a", "a", "a", "a"}},
		{"0", []byte{0}, []string{"a", "a", "a", "a"}},
		{"one byte", []byte{2}, []string{"abc", "abc", "abc", "abc"}},
		{"two bytes", []byte{0, 1}, []string{"a", "ab", "a", "ab"}},
		{"three bytes", []byte{0, 1, 2}, []string{"a", "ab", "abc", "a"}},
		{"three bytes, and room", []byte{3, 2, 1, 0, 0}[:3], []string{"abcd", "abc", "ab", "abcd"}},
		{"as many as zones", []byte{0, 1, 2, 3}, []string{"a", "ab", "abc", "abcd"}},
		{"more than zones", []byte{3, 2, 1, 0, 9, 9, 9}, []string{"abcd", "abc", "ab", "a"}},
		{"modulo four", []byte{4, 5, 6, 7}, []string{"a", "ab", "abc", "abcd"}},
		{"great bytes", []byte{252, 253, 254, 255}, []string{"a", "ab", "abc", "abcd"}},
		{"bytes above 127", []byte{128, 129}, []string{"a", "ab", "a", "ab"}},
	} {
		d := loose(t)
		d.Crash(c.keep)
		for z, want := range c.want {
			if got := zoneOf(t, d, z); got != (seen{want, len(want), false}) {
				t.Errorf("%s: zone %d: %+v, want %q", c.name, z, got, want)
			}
		}
		counts(t, c.name, d, 4, 0)
		was := whole(t, d)
		for _, again := range [][]byte{nil, {1}, {9, 8, 7}} {
			d.Crash(again)
			holds(t, c.name+", crashed again", d, was...)
		}
		add(t, d, 3, "x")
		if got := zoneOf(t, d, 3); got.text != c.want[3]+"x" {
			t.Errorf("%s: written behind the Crash: %+v", c.name, got)
		}
	}
}

// TestCrashOfMixed: full and finished zones, and such that nothing is left of.
func TestCrashOfMixed(t *testing.T) {
	d := mixed(t)
	d.Crash([]byte{1, 2, 0, 0, 1, 1, 3})
	holds(t, "crashed", d,
		seen{}, seen{"aa", 1, false}, seen{}, seen{"ccddeeff", 4, false},
		seen{"gg", 1, true}, seen{"", 0, true}, seen{"jjkkll", 3, false})
	counts(t, "crashed", d, 2, 0)
	add(t, d, 2, "xx")
	answers(t, "a zone too many", d.Append(0, []byte("xx")), api.ErrActive)
}

// P5.3

// TestCrashMakesFullOnesShorter: then there may be more in use than limit, and
// nothing is begun anew until there are fewer.
func TestCrashMakesFullOnesShorter(t *testing.T) {
	d := made(t, 5, 3, 1, 2)
	for z := range 4 {
		add(t, d, z, "abc")
	}
	counts(t, "full ones", d, 0, 0)
	d.Crash([]byte{1, 2, 1, 2})
	counts(t, "made shorter", d, 4, 0)
	answers(t, "a zone more", d.Append(4, []byte("x")), api.ErrActive)
	add(t, d, 4, "xyz")
	add(t, d, 0, "x")
	counts(t, "one in use is longer", d, 4, 1)
	add(t, d, 0, "y")
	answers(t, "Finish", d.Finish(1), api.OK)
	counts(t, "just as many as may be", d, 2, 1)
	answers(t, "Reset", d.Reset(4), api.OK)
	answers(t, "a zone more", d.Append(4, []byte("x")), api.ErrActive)
	answers(t, "Reset", d.Reset(2), api.OK)
	add(t, d, 4, "x")
	counts(t, "as many as may be", d, 2, 2)
}

// chance is a row of numbers by a fixed rule.
type chance uint32

func (c *chance) below(n int) int {
	*c = *c*1664525 + 1013904223
	return int(*c>>8) % n
}

// letters are n of them.
func (c *chance) letters(n int) string {
	b := make([]byte, n)
	for i := range b {
		b[i] = byte('a' + c.below(26))
	}
	return string(b)
}

// twin is a member as the chapter tells it.
type twin struct {
	room, block, limit int
	zones              []seen
	bad                int
}

func (w *twin) wp(z int) int { return len(w.zones[z].text) / w.block }

func (w *twin) inUse(z int) bool {
	return !w.zones[z].done && w.wp(z) > 0 && w.wp(z) < w.room
}

func (w *twin) active() int {
	n := 0
	for z := range w.zones {
		if w.inUse(z) {
			n++
		}
	}
	return n
}

func (w *twin) has(z int) bool { return z >= 0 && z < len(w.zones) }

// told counts an error.
func (w *twin) told(e api.Errno) api.Errno {
	if e != api.OK {
		w.bad++
	}
	return e
}

func (w *twin) append(z int, b string) api.Errno {
	switch {
	case !w.has(z):
		return api.ErrZone
	case len(b) == 0 || len(b)%w.block != 0:
		return api.ErrAlign
	case w.zones[z].done || w.wp(z)+len(b)/w.block > w.room:
		return api.ErrFull
	}
	fills := w.wp(z)+len(b)/w.block == w.room
	if !fills && w.wp(z) == 0 && w.active() >= w.limit {
		return api.ErrActive
	}
	w.zones[z].text += b
	return api.OK
}

func (w *twin) read(z, at, n int) (string, api.Errno) {
	switch {
	case !w.has(z):
		return "", api.ErrZone
	case at < 0 || n < 0 || at+n > w.wp(z):
		return "", api.ErrRange
	}
	return w.zones[z].text[at*w.block : (at+n)*w.block], api.OK
}

func (w *twin) crash(keep []byte) {
	for z := range w.zones {
		k := 0
		if len(keep) > 0 {
			k = int(keep[z%len(keep)])
		}
		stay := w.zones[z].safe + k%(w.wp(z)-w.zones[z].safe+1)
		w.zones[z].text = w.zones[z].text[:stay*w.block]
		w.zones[z].safe = stay
	}
}

func (w *twin) flush() {
	for z := range w.zones {
		w.zones[z].safe = w.wp(z)
	}
}

func (w *twin) finish(z int) api.Errno {
	if !w.has(z) {
		return api.ErrZone
	}
	w.zones[z].safe, w.zones[z].done = w.wp(z), true
	return api.OK
}

func (w *twin) reset(z int) api.Errno {
	if !w.has(z) {
		return api.ErrZone
	}
	w.zones[z] = seen{}
	return api.OK
}

// move makes one call on both, and tells whether it was a Crash.
func move(t *testing.T, c *chance, d *zdev.Dev, w *twin) bool {
	t.Helper()
	z := c.below(len(w.zones)+2) - 1
	switch c.below(16) {
	case 0:
		answers(t, "Reset", d.Reset(z), w.told(w.reset(z)))
	case 1:
		answers(t, "Finish", d.Finish(z), w.told(w.finish(z)))
	case 2:
		w.flush()
		answers(t, "Flush", d.Flush(), api.OK)
	case 3:
		keep := []byte(c.letters(c.below(2 * len(w.zones))))
		w.crash(keep)
		d.Crash(keep)
		return true
	case 4, 5:
		at, n := c.below(w.room+2)-1, c.below(w.room+2)-1
		want, f := w.read(z, at, n)
		got, e := d.Read(z, at, n)
		answers(t, "Read", e, w.told(f))
		if string(got) != want {
			t.Errorf("Read(%d, %d, %d): %q, want %q", z, at, n, got, want)
		}
	case 6:
		b := c.letters(c.below(w.room*w.block + 2))
		answers(t, "Append", d.Append(z, []byte(b)), w.told(w.append(z, b)))
	default:
		b := c.letters(w.block * (1 + c.below(w.room)))
		answers(t, "Append", d.Append(z, []byte(b)), w.told(w.append(z, b)))
	}
	return false
}

// TestNeverMoreInUse makes many calls in many orders: there are no more zones
// in use than limit, but where a Crash made more, and then no call but a Crash
// makes them more; and all is as the twin has it.
func TestNeverMoreInUse(t *testing.T) {
	c := chance(5)
	over := 0
	for range 200 {
		w := &twin{room: 1 + c.below(5), block: 1 + c.below(3), limit: 1 + c.below(4)}
		w.zones = make([]seen, 1+c.below(6))
		d := made(t, len(w.zones), w.room, w.block, w.limit)
		most := w.limit
		for range 80 {
			crashed := move(t, &c, d, w)
			holds(t, "behind a call", d, w.zones...)
			counts(t, "behind a call", d, w.active(), w.bad)
			if d.Active() > most && !crashed {
				t.Fatalf("%d zones are in use, %d may be", d.Active(), most)
			}
			most = max(w.limit, d.Active())
			if d.Active() > w.limit {
				over++
			}
			if t.Failed() {
				t.FailNow()
			}
		}
	}
	if over == 0 {
		t.Error("no Crash made more zones in use than limit")
	}
}

// Memory

// spoil writes over a list and its spare room.
func spoil(b []byte) {
	b = b[:cap(b)]
	for i := range b {
		b[i] ^= 0xee
	}
}

// TestAppendKeepsNothing: what is appended is neither changed nor kept, its
// spare room included, whether it is taken or not.
func TestAppendKeepsNothing(t *testing.T) {
	for _, z := range []int{-1, 0, 1, 2, 3, 4, 5, 6, 7} {
		for n := range 13 {
			d := mixed(t)
			room := []byte("0123456789abcdef")
			d.Append(z, room[:n])
			if string(room) != "0123456789abcdef" {
				t.Errorf("Append(%d) of %d bytes changed them: %q", z, n, room)
			}
			was := whole(t, d)
			spoil(room)
			holds(t, fmt.Sprintf("Append(%d) of %d bytes, which were written over", z, n), d, was...)
		}
	}
}

// TestAppendsKeepApart: one list that is appended again and again, written
// over in between.
func TestAppendsKeepApart(t *testing.T) {
	d := made(t, 2, 8, 2, 2)
	b := make([]byte, 2, 16)
	for i := range 8 {
		b[0], b[1] = byte('a'+i), byte('A'+i)
		answers(t, "Append", d.Append(0, b), api.OK)
		answers(t, "Append", d.Append(1, b), api.OK)
	}
	holds(t, "written", d, seen{text: "aAbBcCdDeEfFgGhH"}, seen{text: "aAbBcCdDeEfFgGhH"})
}

// TestReadsInNewMemory: a write to an answer, or to its spare room, is seen
// neither in the member nor in another answer; nor does a later call change an
// answer.
func TestReadsInNewMemory(t *testing.T) {
	d := mixed(t)
	for z, w := range mixedZones() {
		for n := range len(w.text)/2 + 1 {
			first, _ := d.Read(z, 0, n)
			second, _ := d.Read(z, 0, n)
			want := w.text[:2*n]
			spoil(first)
			if string(second) != want {
				t.Errorf("two answers of zone %d share memory", z)
			}
			mixedHolds(t, "an answer written over", d)
		}
	}
	kept, _ := d.Read(1, 0, 2)
	add(t, d, 1, "xx")
	d.Crash(nil)
	add(t, d, 1, "yy")
	d.Flush()
	answers(t, "Reset", d.Reset(1), api.OK)
	add(t, d, 1, "zzzz")
	d.Kill()
	if string(kept) != "aabb" {
		t.Errorf("an answer changed behind later calls: %q", kept)
	}
}

// TestSpareRoomOfAnswers: what is written to an answer's spare room does not
// come to blocks that are appended later.
func TestSpareRoomOfAnswers(t *testing.T) {
	d := made(t, 1, 20, 1, 1)
	var kept [][]byte
	want := ""
	for i := range 20 {
		more := string(byte('a' + i))
		add(t, d, 0, more)
		want += more
		b, e := d.Read(0, 0, i+1)
		if e != api.OK || string(b) != want {
			t.Fatalf("Read: %q, %d", b, int(e))
		}
		kept = append(kept, b)
		spoil(append(b, '?'))
		holds(t, "room written over", d, seen{text: want})
	}
	for i, b := range kept[:10] {
		spoil(b)
		holds(t, fmt.Sprintf("answer %d written over", i), d, seen{text: want})
	}
}

// TestCrashKeepsNothing: the bytes that say what stays are neither changed nor
// kept, and their spare room plays no part.
func TestCrashKeepsNothing(t *testing.T) {
	for n := range 6 {
		room := []byte{1, 2, 3, 0, 1, 2, 3, 0}
		was := bytes.Clone(room)
		d, other := loose(t), loose(t)
		d.Crash(room[:n])
		if !bytes.Equal(room, was) {
			t.Errorf("Crash changed its bytes: %v", room)
		}
		other.Crash(slices.Clip(bytes.Clone(room[:n])))
		holds(t, "with no spare room", other, whole(t, d)...)
		held := whole(t, d)
		spoil(room)
		holds(t, "bytes written over", d, held...)
		d.Crash(nil)
		holds(t, "crashed again", d, held...)
	}
}

// TestFromCallsAlone: the same calls are answered the same, whatever another
// member is asked in between.
func TestFromCallsAlone(t *testing.T) {
	a, b, other := made(t, 4, 3, 2, 2), made(t, 4, 3, 2, 2), made(t, 4, 3, 2, 2)
	ca, cb, co := chance(3), chance(3), chance(9)
	wa, wb, wo := &twin{3, 2, 2, make([]seen, 4), 0}, &twin{3, 2, 2, make([]seen, 4), 0}, &twin{3, 2, 2, make([]seen, 4), 0}
	for range 200 {
		move(t, &ca, a, wa)
		move(t, &co, other, wo)
		move(t, &cb, b, wb)
		holds(t, "the second one", b, whole(t, a)...)
		counts(t, "the second one", b, a.Active(), a.Bad())
	}
}

// TestZeroMember: what it answers is open, but every call ends.
func TestZeroMember(t *testing.T) {
	d := &zdev.Dev{}
	for _, z := range []int{least, -1, 0, 1, greatest} {
		for _, call := range zoneCalls() {
			call(d, z)
		}
		d.Look(z)
	}
	d.Flush()
	d.Crash([]byte{1})
	d.Active()
	d.Bad()
	d.Dead()
	d.Kill()
	d.Crash(nil)
}

// TestGreatestBlocks: zones of the greatest blocks, and of the most of them.
func TestGreatestBlocks(t *testing.T) {
	d := made(t, api.MaxZones, api.MaxCap, api.MaxBlock, 1)
	one := bytes.Repeat([]byte{7}, api.MaxBlock)
	last := api.MaxZones - 1
	answers(t, "a block", d.Append(last, one), api.OK)
	answers(t, "Flush", d.Flush(), api.OK)
	answers(t, "all but one", d.Append(last, make([]byte, (api.MaxCap-2)*api.MaxBlock)), api.OK)
	answers(t, "another zone", d.Append(0, one), api.ErrActive)
	answers(t, "two more", d.Append(last, make([]byte, 2*api.MaxBlock)), api.ErrFull)
	answers(t, "the last one", d.Append(last, one), api.OK)
	answers(t, "another zone", d.Append(0, one), api.OK)
	counts(t, "full", d, 1, 2)
	b, e := d.Read(last, api.MaxCap-1, 1)
	if e != api.OK || !bytes.Equal(b, one) {
		t.Errorf("the last block: %d bytes, %d", len(b), int(e))
	}
	d.Crash([]byte{255})
	if look, ok := d.Look(last); !ok || look != (api.Look{Wp: 256, Safe: 256}) {
		t.Errorf("crashed: %+v, %t", look, ok)
	}
	counts(t, "crashed", d, 2, 2)
}
