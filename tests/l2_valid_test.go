package tests

import (
	"math"
	"math/rand"
	"slices"
	"strings"
	"testing"

	"loop.example/s0023/impl"
)

func lookAtValid(t *testing.T, name string, p impl.Prog, want bool) {
	t.Helper()
	kept := copyProg(p)
	if got := impl.ValidProg(p); got != want {
		t.Errorf("%s: ValidProg is %v", name, got)
	}
	if text := impl.PrintProg(p); !want && len(text) != 0 {
		t.Errorf("%s: a program that is not valid is printed %.100q", name, text)
	} else if want && len(p.Items) > 0 && len(text) == 0 {
		t.Errorf("%s: a valid program has no print", name)
	}
	if !sameProg(p, kept) {
		t.Errorf("%s: the argument is written into", name)
	}
}

func progOfItem(it impl.Item) impl.Prog { return impl.Prog{Items: []impl.Item{it}} }

func progOfOps(ops ...impl.Op) impl.Prog { return progOfItem(impl.Item{Kind: impl.ItemEach, E: ops}) }

// plainItem is a valid item of the kind.
func plainItem(kind int64) impl.Item {
	it := impl.Item{Kind: kind}
	if kind == impl.ItemLet {
		it.Name = "a"
	}
	if hasE(kind) {
		it.E = []impl.Op{{Kind: impl.OpNumber, Val: 1}}
	}
	if kind == impl.ItemNever {
		it.F = []impl.Op{{Kind: impl.OpNumber, Val: 2}}
	}
	return it
}

func TestProgValidKinds(t *testing.T) {
	for kind := int64(1); kind <= 9; kind++ {
		lookAtValid(t, "a plain item", progOfItem(plainItem(kind)), true)
	}
	for _, kind := range []int64{0, 10, -1, math.MaxInt64, math.MinInt64} {
		for like := int64(1); like <= 9; like++ {
			it := plainItem(like)
			it.Kind = kind
			lookAtValid(t, "an item of no kind", progOfItem(it), false)
		}
		lookAtValid(t, "an empty item of no kind", progOfItem(impl.Item{Kind: kind}), false)
		if kind != impl.OpCall {
			lookAtValid(t, "an op of no kind", progOfOps(impl.Op{Kind: kind}), false)
			lookAtValid(t, "an op of no kind behind one", progOfOps(impl.Op{Kind: impl.OpNumber}, impl.Op{Kind: kind}), false)
		}
	}
	lookAtValid(t, "an op past the last kind", progOfOps(impl.Op{Kind: impl.OpCall + 1}), false)
	lookAtValid(t, "no item", impl.Prog{}, true)
}

// fieldBounds are the least and the largest K, Lo and Hi of each kind of item.
var fieldBounds = map[int64][3][2]int64{
	impl.ItemLet: {}, impl.ItemEach: {}, impl.ItemEnd: {}, impl.ItemNever: {},
	impl.ItemSum:    {{-999999999, 999999999}, {-999999999, 999999999}, {-999999999, 999999999}},
	impl.ItemApart:  {{0, 15}, {0, 15}, {0, 0}},
	impl.ItemLifo:   {{0, 999999999}, {0, 0}, {0, 0}},
	impl.ItemRide:   {{0, 0}, {-999999999, 999999999}, {-999999999, 999999999}},
	impl.ItemStreak: {{0, 999999999}, {0, 0}, {0, 0}},
}

func TestProgValidFields(t *testing.T) {
	for kind := int64(1); kind <= 9; kind++ {
		for field, b := range fieldBounds[kind] {
			for _, x := range []int64{0, 1, -1, 15, 16, -16, b[0], b[0] - 1, b[1], b[1] + 1, math.MaxInt64, math.MinInt64} {
				it := plainItem(kind)
				*[]*int64{&it.K, &it.Lo, &it.Hi}[field] = x
				lookAtValid(t, "a number field", progOfItem(it), b[0] <= x && x <= b[1])
			}
		}
	}
	it := plainItem(impl.ItemSum)
	it.Lo, it.Hi = 5, -5
	lookAtValid(t, "Lo above Hi", progOfItem(it), true)
}

func TestProgValidListsOfItems(t *testing.T) {
	one := []impl.Op{{Kind: impl.OpNumber, Val: 1}}
	bad := []impl.Op{{Kind: impl.OpNeg}}
	for kind := int64(1); kind <= 9; kind++ {
		it := plainItem(kind)
		it.E = one
		lookAtValid(t, "an E", progOfItem(it), hasE(kind))
		it.E = bad
		lookAtValid(t, "a bad E", progOfItem(it), false)
		it.E = nil
		lookAtValid(t, "no E", progOfItem(it), !hasE(kind))
		it = plainItem(kind)
		it.F = one
		lookAtValid(t, "an F", progOfItem(it), kind == impl.ItemNever)
		it.F = bad
		lookAtValid(t, "a bad F", progOfItem(it), false)
		it.F = []impl.Op{}
		lookAtValid(t, "no F", progOfItem(it), kind != impl.ItemNever)
	}
}

func TestProgValidNames(t *testing.T) {
	good := []string{"a", "z", "q", "a0", "a_", "lets", "le", "abcdefghijklmnop", "a_9_z01234567899", "pickx", "x_y"}
	bad := []string{"", "abcdefghijklmnopq", "0a", "_a", "A", "aB", "a b", "a-b", "é", "aé", "a\n", " a", "a ", "a\x00", "1", "{", "a{", "a`", "a/", "a:"}
	bad = append(bad, reservedWords...)
	look := func(name string, want bool) {
		t.Helper()
		it := plainItem(impl.ItemLet)
		it.Name = name
		lookAtValid(t, "let "+name, progOfItem(it), want)
		lookAtValid(t, "name "+name, progOfOps(impl.Op{Kind: impl.OpName, Name: name}), want)
	}
	for _, name := range good {
		look(name, true)
	}
	for _, name := range bad {
		look(name, false)
	}
	for kind := int64(2); kind <= 9; kind++ {
		it := plainItem(kind)
		it.Name = "a"
		lookAtValid(t, "a name that the item does not have", progOfItem(it), false)
	}
	for kind := int64(1); kind <= 10; kind++ {
		if kind != impl.OpName {
			ops := plainOps(impl.Op{Kind: kind, Name: "a"})
			lookAtValid(t, "a name that the op does not have", progOfOps(ops...), false)
		}
	}
}

// plainOps is the op behind as many operands as it takes.
func plainOps(op impl.Op) []impl.Op {
	count := map[int64]int{impl.OpNeg: 1, impl.OpNot: 1, impl.OpBin: 2, impl.OpCall: 2}[op.Kind]
	if op.Kind == impl.OpCall && op.Val == impl.CallIf {
		count = 3
	}
	return append(slices.Repeat([]impl.Op{{Kind: impl.OpNumber, Val: 1}}, count), op)
}

func TestProgValidVals(t *testing.T) {
	largest := []int64{impl.OpNumber: 999999999, impl.OpName: 0, impl.OpAttr: 12, impl.OpHas: 15, impl.OpSkill: 15, impl.OpBool: 1,
		impl.OpNeg: 0, impl.OpNot: 0, impl.OpBin: 7, impl.OpCall: 2}
	for kind := int64(1); kind <= 10; kind++ {
		for _, val := range []int64{0, 1, 2, -1, largest[kind] - 1, largest[kind], largest[kind] + 1, math.MaxInt64, math.MinInt64} {
			op := impl.Op{Kind: kind, Val: val}
			if kind == impl.OpName {
				op.Name = "a"
			}
			lookAtValid(t, "the Val of an op", progOfOps(plainOps(op)...), 0 <= val && val <= largest[kind])
		}
	}
}

func TestProgValidPostfix(t *testing.T) {
	for kind := int64(1); kind <= 10; kind++ {
		for val := range int64(3) {
			op := impl.Op{Kind: kind, Val: val}
			switch kind {
			case impl.OpName:
				op.Name, op.Val = "a", 0
			case impl.OpNeg, impl.OpNot:
				op.Val = 0
			case impl.OpBool:
				op.Val = val % 2
			}
			ops := plainOps(op)
			lookAtValid(t, "an op with its operands", progOfOps(ops...), true)
			lookAtValid(t, "an op that lacks an operand", progOfOps(ops[1:]...), false)
			lookAtValid(t, "an op that leaves two values", progOfOps(append([]impl.Op{ops[0]}, ops...)...), false)
			lookAtValid(t, "an op and a value behind it", progOfOps(append(slices.Clone(ops), impl.Op{Kind: impl.OpNumber})...), false)
			if len(ops) > 1 {
				slices.Reverse(ops)
				lookAtValid(t, "an op before its operands", progOfOps(ops...), false)
			}
		}
	}
	n, neg, add := impl.Op{Kind: impl.OpNumber}, impl.Op{Kind: impl.OpNeg}, impl.Op{Kind: impl.OpBin, Val: impl.BinAdd}
	lookAtValid(t, "nothing", progOfOps(), false)
	lookAtValid(t, "an operand comes too late", progOfOps(n, add, n), false)
	lookAtValid(t, "an operator lacks one and a later value makes up for it", progOfOps(n, add, n, n, add), false)
	lookAtValid(t, "a prefix at the front", progOfOps(neg, n), false)
	lookAtValid(t, "two sums", progOfOps(n, n, add, n, n, add), false)
	lookAtValid(t, "a sum of sums", progOfOps(n, n, add, n, n, add, add), true)
}

func TestProgValidCounts(t *testing.T) {
	items := slices.Repeat([]impl.Item{plainItem(impl.ItemLifo)}, impl.ItemMax)
	lookAtValid(t, "100 items", impl.Prog{Items: items}, true)
	lookAtValid(t, "101 items", impl.Prog{Items: append(items, plainItem(impl.ItemLifo))}, false)
	chain := func(n int) []impl.Op {
		ops := []impl.Op{{Kind: impl.OpNumber}}
		for len(ops)+2 <= n {
			ops = append(ops, impl.Op{Kind: impl.OpNumber}, impl.Op{Kind: impl.OpBin, Val: impl.BinAdd})
		}
		if len(ops) < n {
			ops = append(ops, impl.Op{Kind: impl.OpNeg})
		}
		return ops
	}
	lookAtValid(t, "2000 ops", progOfOps(chain(2000)...), true)
	lookAtValid(t, "2001 ops", progOfOps(chain(2001)...), false)
	never := impl.Item{Kind: impl.ItemNever, E: chain(999), F: chain(1001)}
	lookAtValid(t, "2000 ops in E and F", progOfItem(never), true)
	never.F = chain(1002)
	lookAtValid(t, "2001 ops in E and F", progOfItem(never), false)
	many := impl.Prog{Items: slices.Repeat([]impl.Item{{Kind: impl.ItemEach, E: chain(20)}}, impl.ItemMax)}
	lookAtValid(t, "100 items of 20 ops", many, true)
	many.Items[99].E = chain(21)
	lookAtValid(t, "one op more in the last", many, false)
}

// lookAtDepth holds ValidProg against the nesting of the document, and against what a reader of the print finds open.
func lookAtDepth(t *testing.T, name string, x exprTree, want int) {
	t.Helper()
	if n := x.nesting(); n != want {
		t.Errorf("%s has the nesting %d", name, n)
	}
	p := progOfOps(x.postfix()...)
	lookAtValid(t, name, p, want <= impl.DepthMax)
	got := impl.ParseProg([]byte("each " + x.canonical() + ";"))
	if (got.Err == 0) != (want <= impl.DepthMax) || got.Err != 0 && got.Err != impl.SynDepth {
		t.Errorf("%s: error %d at %d", name, got.Err, got.At)
	}
}

func TestProgValidNesting(t *testing.T) {
	a := named("a")
	ways := map[string]func(exprTree) exprTree{
		"neg":          func(x exprTree) exprTree { return prefixed(impl.OpNeg, x) },
		"not":          func(x exprTree) exprTree { return prefixed(impl.OpNot, x) },
		"min first":    func(x exprTree) exprTree { return called(impl.CallMin, x, a) },
		"max second":   func(x exprTree) exprTree { return called(impl.CallMax, a, x) },
		"if first":     func(x exprTree) exprTree { return called(impl.CallIf, x, a, a) },
		"if second":    func(x exprTree) exprTree { return called(impl.CallIf, a, x, a) },
		"if third":     func(x exprTree) exprTree { return called(impl.CallIf, a, a, x) },
		"right of sub": func(x exprTree) exprTree { return joined(impl.BinSub, a, x) },
		"right of or":  func(x exprTree) exprTree { return joined(impl.BinOr, a, x) },
		"left of lt":   func(x exprTree) exprTree { return joined(impl.BinLt, x, a) },
		"right of eq":  func(x exprTree) exprTree { return joined(impl.BinEq, a, x) },
	}
	for name, way := range ways {
		x := a
		for depth := 0; depth <= impl.DepthMax+1; depth++ {
			want := depth
			if strings.Contains(name, " of ") {
				want = max(0, depth-1)
			}
			lookAtDepth(t, name, x, want)
			lookAtDepth(t, "beside another, "+name, called(impl.CallIf, prefixed(impl.OpNeg, a), x, a), 1+max(want, 1))
			x = way(x)
		}
	}
	x := a
	for range 600 {
		x = joined(impl.BinMul, x, prefixed(impl.OpNeg, a))
	}
	lookAtDepth(t, "a chain to the left", x, 1)
}

func TestProgValidNestingOfRandomExpressions(t *testing.T) {
	r := rand.New(rand.NewSource(10))
	for range 300 {
		x := randomExpr(r, 5)
		for x.nesting() < impl.DepthMax-2 {
			switch r.Intn(3) {
			case 0:
				x = prefixed(impl.OpNeg+r.Int63n(2), x)
			case 1:
				x = joined(r.Int63n(8), randomExpr(r, 3), x)
			case 2:
				x = joined(r.Int63n(8), x, randomExpr(r, 3))
			}
		}
		for range 5 {
			lookAtDepth(t, x.canonical(), x, x.nesting())
			x = called(impl.CallMax, randomExpr(r, 3), x)
		}
	}
}
