package tests

import (
	"bytes"
	"encoding/binary"
	"math/rand"
	"runtime"
	"slices"
	"testing"

	"loop.example/s0023/impl"
)

// numbersOf are the numbers of the byte form in their order.
func numbersOf(c impl.Code) []int64 {
	nums := []int64{c.Regs, c.Slots, int64(len(c.Init)), int64(len(c.Step)), int64(len(c.Final))}
	for _, x := range slices.Concat(c.Init, c.Step, c.Final) {
		nums = append(nums, x.Op, x.A, x.B, x.C)
	}
	return nums
}

// slowBytes writes any code at all; the library's form of a signed number is the document's.
func slowBytes(c impl.Code) []byte { return bytesOf(numbersOf(c)...) }

func bytesOf(nums ...int64) []byte {
	var b []byte
	for _, n := range nums {
		b = binary.AppendVarint(b, n)
	}
	return b
}

// slowNumbers reads the whole text as numbers, or fails.
func slowNumbers(b []byte) ([]int64, bool) {
	var nums []int64
	for len(b) > 0 {
		n, size := binary.Varint(b)
		if size <= 0 || size > 5 || !bytes.Equal(b[:size], bytesOf(n)) {
			return nil, false
		}
		nums = append(nums, n)
		b = b[size:]
	}
	return nums, true
}

// slowDecode is the document's 3.4.
func slowDecode(b []byte) impl.Code {
	nums, ok := slowNumbers(b)
	if !ok || len(nums) < 5 {
		return impl.Code{}
	}
	c := impl.Code{Regs: nums[0], Slots: nums[1]}
	lengths, nums := nums[2:5], nums[5:]
	for i, block := range []*[]impl.Ins{&c.Init, &c.Step, &c.Final} {
		if lengths[i] < 0 || lengths[i] > 16384 || int64(len(nums)) < 4*lengths[i] {
			return impl.Code{}
		}
		for range lengths[i] {
			*block = append(*block, impl.Ins{Op: nums[0], A: nums[1], B: nums[2], C: nums[3]})
			nums = nums[4:]
		}
	}
	if len(nums) > 0 || !slowValid(c) {
		return impl.Code{}
	}
	return c
}

func lookAtDecoded(t *testing.T, name string, b []byte) impl.Code {
	t.Helper()
	kept := slices.Clone(b)
	got, want := impl.DecodeCode(b), slowDecode(b)
	if !sameCode(got, want) {
		t.Errorf("%s, % x: decoded to %+v, not %+v", name, b[:min(len(b), 40)], got, want)
	}
	if got.Regs != 0 && !bytes.Equal(impl.EncodeCode(got), kept) {
		t.Errorf("%s, % x: decoded, but not the byte form of its code", name, b[:min(len(b), 40)])
	}
	if !bytes.Equal(b, kept) {
		t.Errorf("%s: the argument is written into", name)
	}
	return got
}

func lookAtRefused(t *testing.T, name string, b []byte) {
	t.Helper()
	if got := lookAtDecoded(t, name, b); !sameCode(got, impl.Code{}) {
		t.Errorf("%s, % x: decoded to %+v", name, b[:min(len(b), 40)], got)
	}
}

func lookAtBytes(t *testing.T, c impl.Code, want []byte) {
	t.Helper()
	kept := copyCode(c)
	got := impl.EncodeCode(c)
	if !bytes.Equal(got, want) {
		t.Errorf("%+v: % x, not % x", c, got, want)
	}
	if back := lookAtDecoded(t, "the byte form", want); !sameCode(back, c) {
		t.Errorf("% x: decoded to %+v, not %+v", want, back, c)
	}
	if !sameCode(c, kept) {
		t.Errorf("%+v is written into", kept)
	}
}

func TestBytesOfSmallCodes(t *testing.T) {
	lookAtBytes(t, impl.Code{Regs: 13}, []byte{26, 0, 0, 0, 0})
	lookAtBytes(t, impl.Code{Regs: 1000, Slots: 100}, []byte{0xd0, 0x0f, 0xc8, 0x01, 0, 0, 0})
	lookAtBytes(t, impl.Code{Regs: 14, Slots: 2,
		Init:  []impl.Ins{insOf("Const", 13, -1)},
		Step:  []impl.Ins{insOf("Save", 1, 12), insOf("Jump", 2)},
		Final: []impl.Ins{insOf("Mul", 13, 1, 2), insOf("Load", 13, 1), insOf("Check", 4, 100)},
	}, []byte{28, 4, 2, 4, 6, 2, 26, 1, 0, 38, 2, 24, 0, 34, 0, 4, 0, 10, 26, 2, 4, 40, 26, 2, 0, 36, 8, 0xc8, 0x01, 0})
}

func TestBytesOfNumbers(t *testing.T) {
	rows := []struct {
		n    int64
		want []byte
	}{
		{0, []byte{0}}, {-1, []byte{1}}, {1, []byte{2}}, {-2, []byte{3}}, {2, []byte{4}},
		{63, []byte{0x7e}}, {-64, []byte{0x7f}}, {64, []byte{0x80, 0x01}}, {-65, []byte{0x81, 0x01}}, {65, []byte{0x82, 0x01}},
		{8191, []byte{0xfe, 0x7f}}, {-8192, []byte{0xff, 0x7f}}, {8192, []byte{0x80, 0x80, 0x01}}, {-8193, []byte{0x81, 0x80, 0x01}},
		{1048575, []byte{0xfe, 0xff, 0x7f}}, {1048576, []byte{0x80, 0x80, 0x80, 0x01}},
		{134217727, []byte{0xfe, 0xff, 0xff, 0x7f}}, {134217728, []byte{0x80, 0x80, 0x80, 0x80, 0x01}},
		{1000000000, []byte{0x80, 0xa8, 0xd6, 0xb9, 0x07}}, {-1000000000, []byte{0xff, 0xa7, 0xd6, 0xb9, 0x07}},
	}
	for _, row := range rows {
		c := impl.Code{Regs: 14, Step: []impl.Ins{insOf("Const", 13, row.n)}}
		lookAtBytes(t, c, slices.Concat([]byte{28, 0, 0, 2, 0, 2, 26}, row.want, []byte{0}))
	}
	for _, n := range []int64{impl.Cap + 1, -impl.Cap - 1, 1<<34 - 1, -1 << 34} {
		lookAtRefused(t, "a constant past Cap", slices.Concat([]byte{28, 0, 0, 2, 0, 2, 26}, bytesOf(n), []byte{0}))
	}
}

// longer is the number in a form with so many needless groups at its end.
func longer(n int64, more int) []byte {
	b := bytesOf(n)
	b[len(b)-1] |= 0x80
	return append(append(b, bytes.Repeat([]byte{0x80}, more-1)...), 0)
}

func TestBytesNotInShortestForm(t *testing.T) {
	c := impl.Code{Regs: 14, Slots: 1, Init: []impl.Ins{insOf("Const", 13, 1000000000)}, Step: []impl.Ins{insOf("Load", 13, 0)}, Final: []impl.Ins{insOf("Sub", 13, 0, 9)}}
	nums := numbersOf(c)
	for i, n := range nums {
		for more := 1; more <= 6; more++ {
			lookAtRefused(t, "a number that is not in shortest form", slices.Concat(bytesOf(nums[:i]...), longer(n, more), bytesOf(nums[i+1:]...)))
		}
		lookAtRefused(t, "a number of six bytes", slices.Concat(bytesOf(nums[:i]...), bytesOf(1<<34+n), bytesOf(nums[i+1:]...)))
		lookAtRefused(t, "a number of ten bytes", slices.Concat(bytesOf(nums[:i]...), bytesOf(-1<<63), bytesOf(nums[i+1:]...)))
		lookAtRefused(t, "a number without an end", slices.Concat(bytesOf(nums[:i]...), bytes.Repeat([]byte{0xff}, 100)))
		for _, bit := range []int64{1 << 31, 1 << 32, 1 << 33} {
			lookAtRefused(t, "a number that is right in its low bits alone", slices.Concat(bytesOf(nums[:i]...), bytesOf(bit+n), bytesOf(nums[i+1:]...)))
		}
	}
	lookAtBytes(t, c, slowBytes(c))
}

func TestBytesMissingAndLeftOver(t *testing.T) {
	codes := []impl.Code{
		{Regs: 13},
		{Regs: 1000, Slots: 100, Final: []impl.Ins{insOf("Const", 999, -impl.Cap)}},
		impl.Compile(soundProg(t, "let a = 1; sum a from 999999999 in -70 .. 9; lifo 3; never pick then drop; apart a b; end a < 5;")),
	}
	for _, c := range codes {
		b := impl.EncodeCode(c)
		lookAtBytes(t, c, slowBytes(c))
		for n := range b {
			lookAtRefused(t, "a text with its end cut off", b[:n])
			lookAtRefused(t, "a text that ends within a number", append(slices.Clone(b[:n]), 0x80))
			lookAtRefused(t, "a text with its front cut off", b[n+1:])
		}
		for over := range 256 {
			lookAtRefused(t, "a byte left over", append(slices.Clone(b), byte(over)))
		}
		lookAtRefused(t, "the text twice", slices.Concat(b, b))
	}
	lookAtRefused(t, "nothing", nil)
}

func TestBytesLengths(t *testing.T) {
	one := insOf("Tag", 13, 15)
	for which := range 3 {
		for _, n := range []int{0, 1, 63, 64, impl.CodeMax - 1, impl.CodeMax, impl.CodeMax + 1, impl.CodeMax + 64} {
			c := impl.Code{Regs: 14}
			*[]*[]impl.Ins{&c.Init, &c.Step, &c.Final}[which] = slices.Repeat([]impl.Ins{one}, n)
			if got := lookAtDecoded(t, "a block", slowBytes(c)); (got.Regs == 14) != (n <= impl.CodeMax) {
				t.Errorf("block %d of length %d: decoded to %d registers", which, n, got.Regs)
			}
		}
		for _, claim := range []int64{-1, -2, -64, -65, -impl.CodeMax, 1, 2, impl.CodeMax, impl.CodeMax + 1, 1<<34 - 1, -1 << 34, 1 << 32} {
			nums := []int64{14, 0, 0, 0, 0}
			nums[2+which] = claim
			lookAtRefused(t, "a length with nothing behind it", bytesOf(nums...))
			if claim != 1 {
				lookAtRefused(t, "a length with one instruction behind it", bytesOf(append(nums, 13, 13, 15, 0)...))
			}
		}
	}
	lookAtRefused(t, "lengths whose sum is right", bytesOf(14, 0, -1, 2, 0, 13, 13, 15, 0))
	c := impl.Code{Regs: 14, Init: []impl.Ins{one}, Step: []impl.Ins{one, one}, Final: []impl.Ins{one, one, one}}
	lookAtBytes(t, c, slowBytes(c))
}

func TestBytesThatClaimGreatLengths(t *testing.T) {
	texts := [][]byte{
		bytesOf(14, 0, impl.CodeMax, impl.CodeMax, impl.CodeMax),
		bytesOf(14, 0, 1<<34-1, 1<<34-1, 1<<34-1),
		bytesOf(14, 0, 1<<30, 0, 0),
		bytesOf(1<<34-1, 1<<34-1, 0, 0, 0),
	}
	var before, after runtime.MemStats
	runtime.ReadMemStats(&before)
	for range 10 {
		for _, b := range texts {
			if got := impl.DecodeCode(b); !sameCode(got, impl.Code{}) {
				t.Errorf("% x: decoded to %+v", b, got)
			}
		}
	}
	runtime.ReadMemStats(&after)
	if used := after.TotalAlloc - before.TotalAlloc; used > 40*4<<20 {
		t.Errorf("%d bytes of memory for texts that hold nothing", used)
	}
}

func TestBytesOfRandomCodes(t *testing.T) {
	r := rand.New(rand.NewSource(35))
	for range 3000 {
		c := randomCode(r, 0)
		lookAtBytes(t, c, slowBytes(c))
		b := slowBytes(c)
		for range 10 {
			x := slices.Clone(b)
			at := r.Intn(len(x))
			switch r.Intn(4) {
			case 0:
				x[at] ^= 1 << r.Intn(8)
			case 1:
				x[at] = byte(r.Intn(256))
			case 2:
				x = slices.Delete(x, at, at+1)
			case 3:
				x = slices.Insert(x, at, byte(r.Intn(256)))
			}
			lookAtDecoded(t, "bytes with one of them changed", x)
		}
	}
}

func TestBytesOfEveryShortText(t *testing.T) {
	alphabet := []byte{0, 1, 2, 24, 26, 28, 0x7f, 0x80, 0x81, 0xff}
	decoded := 0
	var grow func(b []byte)
	grow = func(b []byte) {
		if got := lookAtDecoded(t, "a short text", b); got.Regs != 0 {
			decoded++
		}
		if len(b) == 6 {
			return
		}
		for _, c := range alphabet {
			grow(append(slices.Clone(b), c))
		}
	}
	for _, first := range []byte{26, 28, 0x80, 0x9a} {
		grow([]byte{first})
	}
	if decoded == 0 {
		t.Errorf("no short text is decoded")
	}
}
