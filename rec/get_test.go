package rec_test

import (
	"bytes"
	"encoding/binary"
	"fmt"
	"slices"
	"testing"

	"revetment/api"
	"revetment/rec"
)

// P10.3

func TestGetOfBlocksThatMayNotBe(t *testing.T) {
	for _, block := range badBlocks() {
		for name, b := range map[string][]byte{
			"nil":          nil,
			"15 bytes":     make([]byte, 15),
			"no length":    bytes.Repeat([]byte{0xff}, 64),
			"a wrong sum":  headed(80, 1, make([]byte, 80), 64),
			"a wrong one":  framed(payload(with(full(), "Kind", 7)), 64),
			"a right one":  rec.Put(full(), 64),
			"bytes behind": append(rec.Put(full(), 1), 7),
		} {
			refuses(t, name, b, block, api.ErrArg)
		}
	}
}

func TestGetOfTooFew(t *testing.T) {
	for _, block := range goodBlocks() {
		refuses(t, "nil", nil, block, api.ErrShort)
		refuses(t, "nothing", []byte{}, block, api.ErrShort)
		for n := range head {
			refuses(t, fmt.Sprint(n, " bytes 0"), make([]byte, n), block, api.ErrShort)
			// A first number that may not be is not told ahead of what lacks.
			refuses(t, fmt.Sprint(n, " bytes ff"), bytes.Repeat([]byte{0xff}, n), block, api.ErrShort)
			refuses(t, fmt.Sprint(n, " bytes, and spare room"), rec.Put(full(), block)[:n], block, api.ErrShort)
		}
	}
	// Sixteen bytes are a head, and of blocks of one byte all of a record that
	// has no payload.
	refuses(t, "16 bytes 0", make([]byte, 16), 1, api.ErrForm)
	refuses(t, "16 bytes 0, a block", make([]byte, 16), 16, api.ErrForm)
	refuses(t, "16 bytes 0, less than a block", make([]byte, 16), 17, api.ErrShort)
	refuses(t, "16 bytes ff", bytes.Repeat([]byte{0xff}, 16), 17, api.ErrForm)
	refuses(t, "16 bytes of a record", rec.Put(full(), 1)[:16], 1, api.ErrShort)
	refuses(t, "no payload, and another sum", headed(0, 1, nil, 1), 1, api.ErrSum)
}

// TestGetOfFirstNumbers: what the first number alone decides.
func TestGetOfFirstNumbers(t *testing.T) {
	const top = api.MaxText + bare
	for _, block := range []int{1, 16, 64, 4096} {
		long := make([]byte, head+top+2*4096)
		for _, c := range []struct {
			n    int
			want api.Errno // of bytes that are enough, with a sum that agrees
		}{
			{least, api.ErrForm}, {least + 1, api.ErrForm}, {-1 << 32, api.ErrForm}, {-80, api.ErrForm}, {-1, api.ErrForm},
			{0, api.ErrForm}, {1, api.ErrForm}, {79, api.ErrForm}, {80, api.OK},
			{81, api.ErrForm}, {top - 1, api.ErrForm}, {top, api.ErrForm},
			{top + 1, api.ErrForm}, {1<<32 + 80, api.ErrForm}, {most, api.ErrForm}, {greatest - 16, api.ErrForm}, {greatest, api.ErrForm},
		} {
			what := fmt.Sprint("the first number is ", c.n)
			inside := c.n >= 0 && c.n <= top
			agreed := 0
			if inside {
				agreed = sum(long[:c.n])
			}
			b := headed(c.n, agreed, long[head:], 1)
			if c.want == api.OK {
				gets(t, what, b, block, api.Rec{}, (head+bare+block-1)/block)
			} else {
				refuses(t, what, b, block, c.want)
			}
			// Behind the head, errors are told in their order: the form of the
			// first number, what lacks, the sum, the form of the rest.
			few, other := api.ErrForm, api.ErrForm
			if inside {
				few, other = api.ErrShort, api.ErrSum
			}
			refuses(t, what+", and the sum is another one", headed(c.n, agreed+1, long[head:], 1), block, other)
			if c.n != 0 || block > head {
				refuses(t, what+", and there is nothing behind", headed(c.n, agreed, nil, 1), block, few)
				refuses(t, what+", the sum is another one, and there is nothing behind", headed(c.n, agreed+1, nil, 1), block, few)
			}
		}
	}
}

// TestGetOfTheGreatest: a first number of MaxText and 80 together is right of
// the greatest record, and a byte more is not, whatever it is of.
func TestGetOfTheGreatest(t *testing.T) {
	x := bodied(utmost(), row(api.MaxText))
	for _, block := range []int{1, 4096} {
		b := framed(payload(x), block)
		gets(t, "the greatest", b, block, x, len(b)/block)
		refuses(t, "the greatest, less a byte", b[:len(b)-1], block, api.ErrShort)
		more := framed(payload(bodied(x, row(api.MaxText+1))), block)
		refuses(t, "a byte more", more, block, api.ErrForm)
		refuses(t, "a byte more, of which bytes lack", more[:head], block, api.ErrForm)
	}
}

// TestGetOfOtherSums: a sum is off by one bit, of all bits that its number
// has, or by a bit of the payload.
func TestGetOfOtherSums(t *testing.T) {
	for _, block := range []int{1, 32, 100} {
		for _, x := range []api.Rec{{}, full(), utmost()} {
			was := rec.Put(x, block)
			for bit := range 64 {
				b := bytes.Clone(was)
				b[8+bit/8] ^= 1 << (bit % 8)
				refuses(t, fmt.Sprint("bit ", bit, " of the sum"), b, block, api.ErrSum)
			}
			for bit := range 8 * len(payload(x)) {
				b := bytes.Clone(was)
				b[head+bit/8] ^= 1 << (bit % 8)
				refuses(t, fmt.Sprint("bit ", bit, " of the payload"), b, block, api.ErrSum)
			}
		}
	}
	p := payload(full())
	for _, n := range []int{-sum(p), sum(p) - 1<<32, sum(p) + 1<<32, ^sum(p), 0, -1, least, greatest} {
		refuses(t, "another sum", headed(len(p), n, p, 32), 32, api.ErrSum)
	}
}

// TestGetOfWrongRecords: their bytes and sums agree.
func TestGetOfWrongRecords(t *testing.T) {
	for i, x := range wrong() {
		for _, block := range []int{1, 64, 4096} {
			refuses(t, fmt.Sprint("a wrong one, ", i), framed(payload(x), block), block, api.ErrForm)
		}
	}
	for _, base := range []api.Rec{{}, full(), utmost()} {
		for _, name := range names {
			for _, n := range []int{least, -2, -1, 0, 6, 7, most, most + 1, greatest} {
				x := with(base, name, n)
				b := framed(payload(x), 32)
				if rec.Right(x) {
					gets(t, fmt.Sprint(name, " ", n), b, 32, x, len(b)/32)
				} else {
					refuses(t, fmt.Sprint(name, " ", n), b, 32, api.ErrForm)
				}
			}
		}
	}
}

// TestGetOfOtherLengths: payloads of which bytes lack, or that have bytes
// behind, or that tell another length of Body than it has. Their sums agree.
func TestGetOfOtherLengths(t *testing.T) {
	for _, x := range []api.Rec{{}, full(), bodied(utmost(), row(50))} {
		p := payload(x)
		for _, block := range []int{1, 32, 64, 4096} {
			for n := range p {
				refuses(t, fmt.Sprint(n, " bytes of ", len(p)), framed(p[:n], block), block, api.ErrForm)
			}
			for _, more := range [][]byte{{0}, {1}, make([]byte, 8), make([]byte, 32), p} {
				refuses(t, fmt.Sprint(len(more), " bytes behind"), framed(slices.Concat(p, more), block), block, api.ErrForm)
			}
			for _, n := range []int{least, -1, len(x.Body) - 1, len(x.Body) + 1, api.MaxText, api.MaxText + 1, most, greatest} {
				q := bytes.Clone(p)
				binary.LittleEndian.PutUint64(q[bare-8:], uint64(n))
				refuses(t, fmt.Sprint("Body of ", n, " bytes, where there are ", len(x.Body)), framed(q, block), block, api.ErrForm)
			}
		}
	}
}

// TestGetOfFill: all bytes behind the payload, in its blocks, are 0; behind
// its blocks they may be what they will.
func TestGetOfFill(t *testing.T) {
	for _, block := range []int{2, 32, 64, 97, 512, 4096} {
		for _, x := range []api.Rec{{}, full(), bodied(utmost(), row(50))} {
			was := rec.Put(x, block)
			for i := head + len(payload(x)); i < len(was); i++ {
				for _, v := range []byte{1, 0x80, 0xff} {
					b := bytes.Clone(was)
					b[i] = v
					refuses(t, fmt.Sprint("byte ", i, " is ", v), b, block, api.ErrForm)
					// A sum that is another one is told ahead of it.
					b[8] ^= 1
					refuses(t, fmt.Sprint("byte ", i, " is ", v, ", the sum is another one"), b, block, api.ErrSum)
				}
			}
			for _, v := range []byte{0, 1, 0xff} {
				gets(t, "a byte behind the blocks", append(bytes.Clone(was), v), block, x, len(was)/block)
			}
		}
	}
}

// TestGetTellsTheFirst: errors that apply at once.
func TestGetTellsTheFirst(t *testing.T) {
	p := payload(with(full(), "Kind", 7))
	b := framed(p, 32)
	refuses(t, "a wrong record", b, 32, api.ErrForm)
	refuses(t, "a wrong record, of which a byte lacks", b[:len(b)-1], 32, api.ErrShort)
	refuses(t, "a wrong record, of which a block lacks", b[:len(b)-32], 32, api.ErrShort)
	refuses(t, "a wrong record, with a byte in its fill, of which one lacks", append(b[:len(b)-2:len(b)-2], 1), 32, api.ErrShort)
	refuses(t, "a wrong record, and another sum", headed(len(p), sum(p)+1, p, 32), 32, api.ErrSum)
	refuses(t, "a wrong record, another sum, and a byte lacks", headed(len(p), sum(p)+1, p, 32)[:127], 32, api.ErrShort)
	refuses(t, "no length, and bytes lack", headed(-1, 0, nil, 1), 32, api.ErrForm)
	refuses(t, "no length, and fewer bytes than a head", headed(-1, 0, nil, 1)[:15], 32, api.ErrShort)
	refuses(t, "all at once, and no block", headed(-1, 0, nil, 1)[:15], 0, api.ErrArg)
}

// told is Get by the document's words: which of all records that are tried it
// is.
func told(b []byte, block int, tried ...api.Rec) (api.Rec, int, api.Errno) {
	number := func(at int) int { return int(binary.LittleEndian.Uint64(b[at:])) }
	switch {
	case block < 1, block > 4096:
		return api.Rec{}, 0, api.ErrArg
	case len(b) < 16:
		return api.Rec{}, 0, api.ErrShort
	case number(0) < 0, number(0) > 1<<20+80:
		return api.Rec{}, 0, api.ErrForm
	}
	end := 16 + number(0)
	whole, blocks := 0, 0
	for whole < end {
		whole += block
		blocks++
	}
	switch {
	case whole > len(b):
		return api.Rec{}, 0, api.ErrShort
	case number(8) != sum(b[16:end]):
		return api.Rec{}, 0, api.ErrSum
	}
	for _, x := range tried {
		if bytes.Equal(framed(payload(x), block), b[:whole]) {
			return x, blocks, api.OK
		}
	}
	return api.Rec{}, 0, api.ErrForm
}

// TestGetOfChangedBytes changes each byte of a record in many ways, mends the
// sum or leaves it, and cuts it anywhere.
func TestGetOfChangedBytes(t *testing.T) {
	var seen [18]int
	for _, block := range []int{1, 24, 50, 128} {
		x := full()
		was := append(rec.Put(x, block), row(60)...)
		for i := range was {
			for _, change := range []byte{0, 1, 3, 0x80, 0xff} {
				for _, mend := range []bool{false, true} {
					b := bytes.Clone(was)
					b[i] ^= change
					if mend {
						binary.LittleEndian.PutUint64(b[8:], uint64(sum(b[16:99])))
					}
					y := read(b)
					for _, cut := range []int{0, 1, 59, 60, 61, len(b) - 99, len(b) - 16, len(b) - 15} {
						part := b[:len(b)-cut]
						want, blocks, e := told(part, block, y)
						seen[e]++
						if e == api.OK {
							gets(t, fmt.Sprint("byte ", i, " by ", change, ", less ", cut), part, block, want, blocks)
						} else {
							refuses(t, fmt.Sprint("byte ", i, " by ", change, ", less ", cut), part, block, e)
						}
					}
				}
			}
		}
	}
	for _, e := range []api.Errno{api.OK, api.ErrShort, api.ErrForm, api.ErrSum} {
		if seen[e] == 0 {
			t.Errorf("error %d never comes", int(e))
		}
	}
}

// read is the right record that the bytes at the places of full's bytes may
// be; one that is not right is none.
func read(b []byte) api.Rec {
	var x api.Rec
	for i, name := range names {
		*at(&x, name) = int(binary.LittleEndian.Uint64(b[16+8*i:]))
	}
	if length := int(binary.LittleEndian.Uint64(b[88:])); length >= 0 && length <= 3 {
		x.Body = b[96 : 96+length]
	}
	if !rec.Right(x) {
		return api.Rec{}
	}
	return x
}

func TestAllOfNone(t *testing.T) {
	for _, block := range goodBlocks() {
		tells(t, "nil", nil, block, nil, 0)
		tells(t, "nothing", []byte{}, block, nil, 0)
		tells(t, "a byte", []byte{80}, block, nil, 0)
		tells(t, "bytes 0", make([]byte, 5000), block, nil, 0)
		tells(t, "bytes ff", bytes.Repeat([]byte{0xff}, 5000), block, nil, 0)
		tells(t, "a wrong one", framed(payload(with(full(), "Slot", -2)), block), block, nil, 0)
	}
	for _, block := range badBlocks() {
		tells(t, "nil", nil, block, nil, 0)
		tells(t, "a right one", rec.Put(full(), 64), block, nil, 0)
	}
}

func TestAllOfSeveral(t *testing.T) {
	l := some()
	for _, block := range goodBlocks() {
		blocks := 0
		for n, x := range l {
			tells(t, fmt.Sprint(n, " records"), rec.Join(block, l[:n]...), block, l[:n], blocks)
			blocks += len(framed(payload(x), block)) / block
		}
		tells(t, "all records", rec.Join(block, l...), block, l, blocks)
	}
}

// others are bytes of which Get tells no record, of blocks of so many bytes,
// nor if a record stands behind them.
func others(block int) map[string][]byte {
	laid := rec.Put(full(), block)
	all := map[string][]byte{
		"a byte 0":              {0},
		"two bytes":             {1, 2},
		"15 bytes":              make([]byte, 15),
		"bytes 0":               make([]byte, 9000),
		"bytes ff":              bytes.Repeat([]byte{0xff}, 9000),
		"another sum":           headed(80, 1, make([]byte, 80), block),
		"a wrong record":        framed(payload(with(full(), "W", -1)), block),
		"a head":                laid[:16:16],
		"a record, less a byte": bytes.Clone(laid[:len(laid)-1]),
	}
	if len(laid) > head+len(payload(full())) {
		all["a byte 1 in the fill"] = append(bytes.Clone(laid[:len(laid)-1]), 1)
	}
	return all
}

// TestAllOfOthersBehind: what Get tells no record of ends it, and what stands
// behind that is not told.
func TestAllOfOthersBehind(t *testing.T) {
	l := []api.Rec{full(), {}, utmost()}
	for _, block := range []int{1, 32, 64, 100, 4096} {
		ahead := rec.Join(block, l...)
		for name, more := range others(block) {
			tells(t, name, slices.Concat(ahead, more), block, l, len(ahead)/block)
			tells(t, name+", and a record", slices.Concat(ahead, more, rec.Put(full(), block)), block, l, len(ahead)/block)
			tells(t, name+", ahead of all", slices.Concat(more, ahead), block, nil, 0)
		}
	}
}

// TestAllCutAnywhere: of any beginning, the records of which nothing lacks.
func TestAllCutAnywhere(t *testing.T) {
	l := []api.Rec{full(), {}, bodied(utmost(), row(40)), {Slot: -1}}
	for _, block := range []int{1, 7, 32, 100, 256} {
		b := rec.Join(block, l...)
		for n := range len(b) + 1 {
			whole, blocks := 0, 0
			for whole < len(l) {
				more := len(framed(payload(l[whole]), block)) / block
				if (blocks+more)*block > n {
					break
				}
				whole++
				blocks += more
			}
			tells(t, fmt.Sprint(n, " bytes of ", len(b)), b[:n], block, l[:whole], blocks)
		}
	}
}

// TestAllIsOfBlocks: records begin where the one ahead has its last block's
// end, and not where its payload ends.
func TestAllIsOfBlocks(t *testing.T) {
	b := append(framed(payload(full()), 1), framed(payload(full()), 1)...)
	tells(t, "one behind the other, of blocks of 1", b, 1, []api.Rec{full(), full()}, 198)
	tells(t, "one behind the other, of blocks of 99", b, 99, []api.Rec{full(), full()}, 2)
	tells(t, "one behind the other, of blocks of 100", b, 100, nil, 0)
	b = rec.Join(32, full(), full())
	tells(t, "of blocks of 32", b, 32, []api.Rec{full(), full()}, 8)
	tells(t, "of blocks of 128", b, 128, []api.Rec{full(), full()}, 2)
	tells(t, "of blocks of 16", b, 16, []api.Rec{full()}, 7)
}

// P10.4

// TestPutIsGot: whatever stands behind.
func TestPutIsGot(t *testing.T) {
	for _, x := range some() {
		for _, block := range goodBlocks() {
			b := rec.Put(x, block)
			for _, more := range [][]byte{
				nil, {0}, {1}, {0xff}, make([]byte, 15), make([]byte, block), bytes.Repeat([]byte{0xff}, block), row(5000),
				b, b[:16], rec.Put(api.Rec{}, block), headed(-1, -1, nil, block),
			} {
				gets(t, fmt.Sprint(len(more), " bytes behind"), slices.Concat(b, more), block, x, rec.Blocks(x, block))
			}
		}
	}
}

func TestPutIsGotOfAllBlocks(t *testing.T) {
	b := append(rec.Put(full(), 1), make([]byte, 5000)...)
	for block := 1; block <= api.MaxBlock; block++ {
		gets(t, "its own blocks", rec.Put(full(), block), block, full(), rec.Blocks(full(), block))
		gets(t, "bytes 0 behind", b, block, full(), rec.Blocks(full(), block))
	}
}

// TestPutIsGotOfManyNumbers puts, and gets, records that a fixed rule chooses.
func TestPutIsGotOfManyNumbers(t *testing.T) {
	seed := uint64(88172645463325252)
	next := func(n int) int {
		seed ^= seed << 13
		seed ^= seed >> 7
		seed ^= seed << 17
		return int(seed>>1) % n
	}
	for range 5000 {
		x := api.Rec{Kind: next(7), Body: row(next(200))}
		for _, name := range names[1:] {
			*at(&x, name) = next(most+1) >> next(41)
		}
		x.Slot -= next(2)
		block := next(api.MaxBlock) + 1
		b := rec.Put(x, block)
		same(t, "Put", b, framed(payload(x), block))
		gets(t, "Get", append(b, row(next(100))...), block, x, rec.Blocks(x, block))
	}
}

// TestWantingBlocks: with each number of its blocks wanting, and with each
// number of its bytes, it is too short.
func TestWantingBlocks(t *testing.T) {
	for _, x := range some() {
		for _, block := range goodBlocks() {
			b := rec.Put(x, block)
			for n := range rec.Blocks(x, block) {
				refuses(t, fmt.Sprint(n, " blocks of it"), b[:n*block], block, api.ErrShort)
				refuses(t, fmt.Sprint(n, " blocks of it, and no spare room"), bytes.Clone(b[:n*block]), block, api.ErrShort)
			}
			for n := range b {
				refuses(t, fmt.Sprint(n, " bytes of it"), b[:n], block, api.ErrShort)
			}
		}
	}
}
