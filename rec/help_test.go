package rec_test

import (
	"bytes"
	"encoding/binary"
	"hash/crc32"
	"math"
	"reflect"
	"slices"
	"testing"

	"revetment/api"
	"revetment/rec"
)

const (
	least    = math.MinInt
	greatest = math.MaxInt
	most     = 1 << 40 // the greatest number of a field
	head     = 16      // bytes ahead of the payload
	bare     = 80      // bytes of a payload whose Body has none
)

// names are the numbers' names, in the order in which they are laid.
var names = []string{"Kind", "Epoch", "Seq", "Zone", "Gen", "Slot", "W", "Member", "Status"}

// at is the number of that name.
func at(x *api.Rec, name string) *int {
	switch name {
	case "Kind":
		return &x.Kind
	case "Epoch":
		return &x.Epoch
	case "Seq":
		return &x.Seq
	case "Zone":
		return &x.Zone
	case "Gen":
		return &x.Gen
	case "Slot":
		return &x.Slot
	case "W":
		return &x.W
	case "Member":
		return &x.Member
	case "Status":
		return &x.Status
	}
	panic("no number is named " + name)
}

// with is x with one number another one.
func with(x api.Rec, name string, n int) api.Rec {
	*at(&x, name) = n
	return x
}

// bodied is x with another Body.
func bodied(x api.Rec, body []byte) api.Rec {
	x.Body = body
	return x
}

// full is a record whose numbers are all unlike each other.
func full() api.Rec {
	return api.Rec{Kind: 4, Epoch: 0x0102030405, Seq: 6, Zone: 2, Gen: 5, Slot: -1, W: 9, Member: 3, Status: 1, Body: []byte("abc")}
}

// utmost is a record whose numbers are all at their greatest.
func utmost() api.Rec {
	return api.Rec{Kind: 6, Epoch: most, Seq: most, Zone: most, Gen: most, Slot: most, W: most, Member: most, Status: most}
}

// row is n bytes that a fixed rule chooses.
func row(n int) []byte {
	b := make([]byte, n)
	seed := uint32(n)*2654435761 + 1
	for i := range b {
		seed = seed*1664525 + 1013904223
		b[i] = byte(seed >> 24)
	}
	return b
}

// some are right records of unlike kinds, none of them of many bytes.
func some() []api.Rec {
	l := []api.Rec{
		{},
		{Slot: -1},
		full(),
		utmost(),
		bodied(utmost(), []byte{0}),
		bodied(full(), make([]byte, 40)),
		bodied(full(), row(500)),
		{Kind: api.RecCheck, Epoch: 1, Body: row(300)},
		{Kind: api.RecStatus, Epoch: 2, Seq: 3, Member: 1, Status: 2},
	}
	for kind := range 7 {
		l = append(l, api.Rec{Kind: kind, Epoch: 1, Seq: kind, Slot: kind - 1, Body: row(kind)})
	}
	return l
}

// wrong are records that are not right, each in one way.
func wrong() []api.Rec {
	var l []api.Rec
	for _, base := range []api.Rec{full(), utmost(), {}} {
		l = append(l, with(base, "Kind", -1), with(base, "Kind", 7), with(base, "Slot", -2), with(base, "Slot", most+1))
		for _, name := range names {
			l = append(l, with(base, name, least), with(base, name, greatest))
			if name != "Kind" && name != "Slot" {
				l = append(l, with(base, name, -1), with(base, name, most+1))
			}
		}
	}
	return append(l, bodied(full(), make([]byte, api.MaxText+1)))
}

// badBlocks are sizes of blocks that may not be.
func badBlocks() []int {
	return []int{least, least + 1, -64, -2, -1, 0, 4097, 4098, 1 << 16, 1<<32 + 1, greatest - 1, greatest}
}

// goodBlocks are some that may be.
func goodBlocks() []int {
	return []int{1, 2, 3, 7, 15, 16, 17, 31, 32, 64, 79, 80, 95, 96, 97, 99, 100, 512, 1000, 4095, 4096}
}

// payload is the document's payload of x, right or not, by the library's
// means.
func payload(x api.Rec) []byte {
	var b []byte
	for _, name := range names {
		b = binary.LittleEndian.AppendUint64(b, uint64(*at(&x, name)))
	}
	b = binary.LittleEndian.AppendUint64(b, uint64(len(x.Body)))
	return append(b, x.Body...)
}

// sum is the library's check sum of b.
func sum(b []byte) int {
	return int(crc32.Checksum(b, crc32.MakeTable(crc32.Castagnoli)))
}

// headed is two numbers, and b behind them, filled up to whole blocks.
func headed(first, second int, b []byte, block int) []byte {
	out := binary.LittleEndian.AppendUint64(nil, uint64(first))
	out = binary.LittleEndian.AppendUint64(out, uint64(second))
	out = append(out, b...)
	for len(out)%block != 0 {
		out = append(out, 0)
	}
	return out
}

// framed is a payload, of whatever, with a head that agrees.
func framed(p []byte, block int) []byte {
	return headed(len(p), sum(p), p, block)
}

// alike is whether two records hold the same, without rec's own Same.
func alike(x, y api.Rec) bool {
	if len(x.Body) == 0 && len(y.Body) == 0 {
		x.Body, y.Body = nil, nil
	}
	return reflect.DeepEqual(x, y)
}

func same(t *testing.T, what string, got, want []byte) {
	t.Helper()
	if !bytes.Equal(got, want) {
		t.Errorf("%s:\ngot  %s\nwant %s", what, short(got), short(want))
	}
}

// short is as much of b as can be looked at.
func short(b []byte) string {
	const enough = 200
	digits := []byte(nil)
	for _, c := range b[:min(len(b), enough)] {
		digits = append(digits, "0123456789abcdef"[c>>4], "0123456789abcdef"[c&15], ' ')
	}
	return string(digits)
}

// gets checks that Get tells the record x.
func gets(t *testing.T, what string, b []byte, block int, x api.Rec, blocks int) {
	t.Helper()
	if y, n, e := rec.Get(b, block); !alike(x, y) || n != blocks || e != api.OK {
		t.Errorf("%s: Get of blocks of %d: kind %d, %d bytes in Body, %d blocks, error %d; want kind %d, %d bytes, %d blocks", what, block, y.Kind, len(y.Body), n, int(e), x.Kind, len(x.Body), blocks)
	}
}

// refuses checks that Get tells that error, and nothing beside it.
func refuses(t *testing.T, what string, b []byte, block int, want api.Errno) {
	t.Helper()
	if y, n, e := rec.Get(b, block); e != want || n != 0 || !alike(y, api.Rec{}) {
		t.Errorf("%s: Get of blocks of %d: error %d, want %d; %d blocks, %+v", what, block, int(e), int(want), n, y)
	}
}

// tells checks what All tells.
func tells(t *testing.T, what string, b []byte, block int, want []api.Rec, blocks int) {
	t.Helper()
	l, n := rec.All(b, block)
	if !slices.EqualFunc(l, want, alike) || n != blocks {
		t.Errorf("%s: All of blocks of %d: %d records, %d blocks; want %d, %d", what, block, len(l), n, len(want), blocks)
	}
}

// spoil writes over a list and its spare room.
func spoil(b []byte) {
	b = b[:cap(b)]
	for i := range b {
		b[i] = 0xee
	}
}
