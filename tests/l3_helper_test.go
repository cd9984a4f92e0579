package tests

import (
	"math/rand"
	"slices"
	"strconv"
	"strings"
	"testing"

	"loop.example/s0023/impl"
)

// insWords are the Ops of the document's 3.2, the first of which is number 1.
var insWords = strings.Fields("Const Move Neg Not Mul Add Sub Lt Le Eq Min Max Tag Skill Jz Jnz Jump Check Save Load")

func insNumber(word string) int64 { return int64(slices.Index(insWords, word)) + 1 }

// insOf gives the fields to A, B, C in order; a Jump has its target in B.
func insOf(word string, fields ...int64) impl.Ins {
	if word == "Jump" {
		fields = append([]int64{0}, fields...)
	}
	abc := append(fields, 0, 0, 0)
	return impl.Ins{Op: insNumber(word), A: abc[0], B: abc[1], C: abc[2]}
}

// assembled reads instructions such as "Const 13 5; Jump 7".
func assembled(t *testing.T, text string) []impl.Ins {
	t.Helper()
	var block []impl.Ins
	for _, piece := range strings.Split(text, ";") {
		words := strings.Fields(piece)
		if len(words) == 0 {
			continue
		}
		var fields []int64
		for _, w := range words[1:] {
			n, err := strconv.ParseInt(w, 10, 64)
			if err != nil {
				t.Fatalf("%q: %v", piece, err)
			}
			fields = append(fields, n)
		}
		if insNumber(words[0]) == 0 {
			t.Fatalf("%q is no instruction", piece)
		}
		block = append(block, insOf(words[0], fields...))
	}
	return block
}

func listing(block []impl.Ins) string {
	var out []string
	for k, x := range block {
		word := strconv.FormatInt(x.Op, 10)
		if 1 <= x.Op && x.Op <= 20 {
			word = insWords[x.Op-1]
		}
		line := strconv.Itoa(k) + ": " + word
		for _, n := range []int64{x.A, x.B, x.C} {
			line += " " + strconv.FormatInt(n, 10)
		}
		out = append(out, line)
	}
	return strings.Join(out, "\n")
}

func sameCode(x, y impl.Code) bool {
	return x.Regs == y.Regs && x.Slots == y.Slots &&
		slices.Equal(x.Init, y.Init) && slices.Equal(x.Step, y.Step) && slices.Equal(x.Final, y.Final)
}

func copyCode(c impl.Code) impl.Code {
	c.Init, c.Step, c.Final = slices.Clone(c.Init), slices.Clone(c.Step), slices.Clone(c.Final)
	return c
}

func soundProg(t *testing.T, text string) impl.Prog {
	t.Helper()
	got := impl.ParseProg([]byte(text))
	if got.Err != 0 {
		t.Fatalf("%q: error %d at %d", text, got.Err, got.At)
	}
	return got.Prog
}

// scope has the names that an expression may use, by their type, and how often the next part is of a wrong type.
type scope struct {
	names  [3][]string
	faults float64
}

func (s scope) leaf(r *rand.Rand, want int64) exprTree {
	if s.faults > 0 && r.Intn(40) == 0 {
		return named(randomName(r))
	}
	if own := s.names[want]; len(own) > 0 && r.Intn(3) == 0 {
		return named(own[r.Intn(len(own))])
	}
	if want == impl.TypeInt {
		if r.Intn(2) == 0 {
			return number(randomNumber(r))
		}
		return attribute(r.Int63n(11))
	}
	op := impl.Op{Kind: impl.OpHas + r.Int63n(3), Val: r.Int63n(16)}
	if op.Kind == impl.OpBool {
		op.Val %= 2
		if r.Intn(2) == 0 {
			return attribute(11 + op.Val)
		}
	}
	return exprTree{op: op}
}

func attribute(n int64) exprTree { return exprTree{op: impl.Op{Kind: impl.OpAttr, Val: n}} }

// expr has about as many ops as it is told, and the wanted type where there are no faults.
func (s scope) expr(r *rand.Rand, want int64, size int) exprTree {
	if r.Float64() < s.faults {
		want = 3 - want
	}
	if size <= 1 {
		return s.leaf(r, want)
	}
	left := r.Intn(size)
	right := size - 1 - left
	either := 1 + r.Int63n(2)
	if r.Intn(6) == 0 {
		return called(impl.CallIf, s.expr(r, impl.TypeBool, size/3), s.expr(r, want, size/3), s.expr(r, want, size/3))
	}
	pair := func(val, kids int64) exprTree {
		return joined(val, s.expr(r, kids, left), s.expr(r, kids, right))
	}
	if want == impl.TypeInt {
		switch r.Intn(5) {
		case 0:
			return prefixed(impl.OpNeg, s.expr(r, want, size-1))
		case 1:
			return called(r.Int63n(2), s.expr(r, want, left), s.expr(r, want, right))
		}
		return pair(r.Int63n(3), want)
	}
	switch r.Intn(6) {
	case 0:
		return prefixed(impl.OpNot, s.expr(r, want, size-1))
	case 1:
		return pair(impl.BinLt+r.Int63n(2), impl.TypeInt)
	case 2:
		return pair(impl.BinEq, either)
	}
	return pair(impl.BinAnd+r.Int63n(2), want)
}

// neededTypes are those of the document's 3.1; an item that is not here takes either.
var neededTypes = map[int64]int64{
	impl.ItemEach: 2, impl.ItemEnd: 2, impl.ItemNever: 2, impl.ItemStreak: 2, impl.ItemSum: 1, impl.ItemRide: 1,
}

// randomTyped makes rules that are sound, but for the faults.
func randomTyped(r *rand.Rand, count int, size int, faults float64) []ruleTree {
	var rules []ruleTree
	s := scope{faults: faults}
	lifo := false
	for len(rules) < count {
		x := randomRule(r, 0)
		kind := x.item.Kind
		if kind == impl.ItemLifo && lifo && r.Float64() >= faults*20 {
			continue
		}
		lifo = lifo || kind == impl.ItemLifo
		want := neededTypes[kind]
		if want == 0 {
			want = 1 + r.Int63n(2)
		}
		x.e, x.f = s.expr(r, want, r.Intn(size)), s.expr(r, want, r.Intn(size))
		if kind == impl.ItemLet {
			used := slices.Concat(s.names[1], s.names[2])
			if slices.Contains(used, x.item.Name) {
				continue
			}
			if len(used) > 0 && r.Float64() < faults*20 {
				x.item.Name = used[r.Intn(len(used))]
			}
			s.names[want] = append(s.names[want], x.item.Name)
		}
		rules = append(rules, x)
	}
	return rules
}
