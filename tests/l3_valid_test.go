package tests

import (
	"math"
	"math/rand"
	"slices"
	"testing"

	"loop.example/s0023/impl"
)

func lookAtCodeValid(t *testing.T, name string, c impl.Code, want bool) {
	t.Helper()
	kept := copyCode(c)
	if got := impl.ValidCode(c); got != want {
		t.Errorf("%s: ValidCode is %v", name, got)
	}
	text := impl.EncodeCode(c)
	if want != (len(text) > 0) {
		t.Errorf("%s: %d bytes", name, len(text))
	}
	if back := impl.DecodeCode(slowBytes(c)); want && !sameCode(back, c) || !want && !sameCode(back, impl.Code{}) {
		t.Errorf("%s: its bytes are decoded to %d registers, %d slots", name, back.Regs, back.Slots)
	}
	if !sameCode(c, kept) {
		t.Errorf("%s: the argument is written into", name)
	}
}

var extremes = []int64{math.MinInt64, math.MinInt64 + 1, math.MaxInt64, math.MaxInt64 - 1, 1 << 32, -1 << 32, 1<<32 + 13, 1<<32 + 1, 1 << 35}

func TestCodeValidRegsAndSlots(t *testing.T) {
	for _, regs := range append([]int64{-1, 0, 1, 12, 13, 14, 500, 999, 1000, 1001, 1002}, extremes...) {
		for _, slots := range append([]int64{-2, -1, 0, 1, 50, 99, 100, 101, 102}, extremes...) {
			want := 13 <= regs && regs <= 1000 && 0 <= slots && slots <= 100
			lookAtCodeValid(t, "no instruction", impl.Code{Regs: regs, Slots: slots}, want)
		}
	}
	lookAtCodeValid(t, "the zero code", impl.Code{}, false)
}

// inBlock puts the instruction at index k of the block of length n, among others that are valid; which is 0 for Init, 1 for Step, 2 for Final.
func inBlock(x impl.Ins, which int, k int, n int, regs int64, slots int64) impl.Code {
	block := slices.Repeat([]impl.Ins{insOf("Check", 0, 1)}, n)
	block[k] = x
	c := impl.Code{Regs: regs, Slots: slots, Init: []impl.Ins{insOf("Skill", 13, 0)}, Final: []impl.Ins{insOf("Const", 13, 0)}}
	*[]*[]impl.Ins{&c.Init, &c.Step, &c.Final}[which] = block
	return c
}

// boundsOf are the least and the largest value of a field, as the document's 3.2 says.
func boundsOf(use byte, k int64, n int64, regs int64, slots int64) (int64, int64) {
	switch use {
	case 'w':
		return 13, regs - 1
	case 'r':
		return 0, regs - 1
	case 'c':
		return -1000000000, 1000000000
	case 't':
		return 0, 15
	case 'j':
		return k + 1, n
	case 'u':
		return 1, 100
	case 's':
		return 0, slots - 1
	}
	return 0, 0
}

func TestCodeValidEveryFieldOfEveryOp(t *testing.T) {
	for op, word := range insWords {
		for _, shape := range []struct {
			which, k, n int
			regs, slots int64
		}{{0, 0, 1, 14, 1}, {1, 3, 7, 20, 5}, {2, 6, 7, 1000, 100}, {1, 0, 3, 15, 2}} {
			plain := impl.Ins{Op: int64(op) + 1}
			fields := []*int64{&plain.A, &plain.B, &plain.C}
			uses := insFields[word]
			for i := range fields {
				*fields[i], _ = boundsOf(uses[i], int64(shape.k), int64(shape.n), shape.regs, shape.slots)
			}
			for i := range fields {
				lo, hi := boundsOf(uses[i], int64(shape.k), int64(shape.n), shape.regs, shape.slots)
				was := *fields[i]
				for _, x := range append([]int64{lo - 2, lo - 1, lo, lo + 1, hi - 1, hi, hi + 1, hi + 2, -1, 0, 1, 12, 13}, extremes...) {
					*fields[i] = x
					c := inBlock(plain, shape.which, shape.k, shape.n, shape.regs, shape.slots)
					lookAtCodeValid(t, word+" "+listing([]impl.Ins{plain}), c, lo <= x && x <= hi)
				}
				*fields[i] = was
			}
		}
	}
}

func TestCodeValidOps(t *testing.T) {
	for _, op := range append([]int64{-1, 0, 21, 22}, extremes...) {
		for _, x := range []impl.Ins{{Op: op}, {Op: op, A: 13}, {Op: op, A: 13, B: 1}, {Op: op, B: 1}, {Op: op, A: 13, B: 1, C: 1}} {
			for which := range 3 {
				lookAtCodeValid(t, "an op that is none", inBlock(x, which, 0, 1, 14, 2), false)
			}
		}
	}
}

func TestCodeValidWithoutRegistersOrSlots(t *testing.T) {
	for op, word := range insWords {
		x := impl.Ins{Op: int64(op) + 1, A: 13, B: 1}
		fields := insFields[word]
		if fields[0] == '0' || fields[0] == 's' {
			x.A = 0
		}
		if fields[1] == 's' {
			x.B = 0
		}
		for _, regs := range []int64{13, 14} {
			for _, slots := range []int64{0, 1} {
				c := impl.Code{Regs: regs, Slots: slots, Step: []impl.Ins{x}}
				want := (regs == 14 || x.A == 0) && (slots == 1 || fields[0] != 's' && fields[1] != 's')
				lookAtCodeValid(t, word, c, want)
			}
		}
	}
}

func TestCodeValidTargets(t *testing.T) {
	for _, word := range []string{"Jz", "Jnz", "Jump"} {
		for n := 1; n <= 5; n++ {
			for k := range n {
				for target := int64(-1); target <= int64(n)+2; target++ {
					x := impl.Ins{Op: insNumber(word), B: target}
					for which := range 3 {
						lookAtCodeValid(t, word, inBlock(x, which, k, n, 14, 0), int64(k) < target && target <= int64(n))
					}
				}
			}
		}
	}
}

func TestCodeValidLengths(t *testing.T) {
	for which := range 3 {
		for _, n := range []int{impl.CodeMax - 1, impl.CodeMax, impl.CodeMax + 1, 2 * impl.CodeMax} {
			lookAtCodeValid(t, "a long block", inBlock(insOf("Jump", int64(n)), which, n-1, n, 14, 0), n <= impl.CodeMax)
		}
	}
	full := slices.Repeat([]impl.Ins{insOf("Max", 999, 0, 12)}, impl.CodeMax)
	lookAtCodeValid(t, "three full blocks", impl.Code{Regs: 1000, Init: full, Step: full, Final: full}, true)
}

// slowValid is the document's 3.2 by the letters of insFields.
func slowValid(c impl.Code) bool {
	if c.Regs < 13 || c.Regs > 1000 || c.Slots < 0 || c.Slots > 100 {
		return false
	}
	for _, block := range [][]impl.Ins{c.Init, c.Step, c.Final} {
		for k, x := range block {
			if x.Op < 1 || x.Op > 20 {
				return false
			}
			for i, n := range []int64{x.A, x.B, x.C} {
				lo, hi := boundsOf(insFields[insWords[x.Op-1]][i], int64(k), int64(len(block)), c.Regs, c.Slots)
				if n < lo || n > hi {
					return false
				}
			}
		}
	}
	return true
}

// randomCode is valid, but for the faults.
func randomCode(r *rand.Rand, faults float64) impl.Code {
	c := impl.Code{Regs: 14 + r.Int63n(50), Slots: 1 + r.Int63n(5)}
	if r.Intn(4) == 0 {
		c.Regs, c.Slots = 1000, 100
	}
	for _, block := range []*[]impl.Ins{&c.Init, &c.Step, &c.Final} {
		n := r.Intn(8)
		for k := range n {
			x := impl.Ins{Op: 1 + r.Int63n(20)}
			uses := insFields[insWords[x.Op-1]]
			for i, field := range []*int64{&x.A, &x.B, &x.C} {
				lo, hi := boundsOf(uses[i], int64(k), int64(n), c.Regs, c.Slots)
				*field = lo + r.Int63n(hi-lo+1)
				if r.Float64() < faults {
					*field += r.Int63n(7) - 3
				}
			}
			if r.Float64() < faults/3 {
				x.Op = r.Int63n(23) - 1
			}
			*block = append(*block, x)
		}
	}
	return c
}

func TestCodeValidAgainstTheSlowOne(t *testing.T) {
	r := rand.New(rand.NewSource(34))
	seen := map[bool]int{}
	for i := range 6000 {
		c := randomCode(r, []float64{0, 0.03, 0.2}[i%3])
		want := slowValid(c)
		lookAtCodeValid(t, "a random code", c, want)
		if i%3 == 0 && !want {
			t.Errorf("a code without faults is not valid")
		}
		seen[want]++
	}
	if seen[true] < 2000 || seen[false] < 1000 {
		t.Errorf("valid and not: %v", seen)
	}
}
