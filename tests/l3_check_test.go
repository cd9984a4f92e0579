package tests

import (
	"slices"
	"strings"
	"testing"

	"loop.example/s0023/impl"
)

func lookAtCheck(t *testing.T, text string, want impl.CheckRes) {
	t.Helper()
	p := soundProg(t, text)
	kept := copyProg(p)
	got := impl.Check(p)
	if !sameCheck(got, want) {
		t.Errorf("%q: %+v, not %+v", text, got, want)
	}
	if want.Err != 0 && !sameCode(impl.Compile(p), impl.Code{}) {
		t.Errorf("%q is not sound and has code", text)
	}
	if !sameProg(p, kept) {
		t.Errorf("%q is written into", text)
	}
}

func lookAtSound(t *testing.T, text string, types ...int64) {
	t.Helper()
	lookAtCheck(t, text, impl.CheckRes{Item: -1, At: -1, Types: types})
}

type faultRow struct {
	text string
	err  int64
	item int64
	at   int64
}

func lookAtFaults(t *testing.T, rows []faultRow) {
	t.Helper()
	for _, row := range rows {
		lookAtCheck(t, row.text, impl.CheckRes{Err: row.err, Item: row.item, At: row.at})
		before := "apart a b; let before = 1; "
		lookAtCheck(t, before+row.text, impl.CheckRes{Err: row.err, Item: row.item + 2, At: row.at})
		lookAtCheck(t, row.text+" each 1 + true; let before = true;", impl.CheckRes{Err: row.err, Item: row.item, At: row.at})
	}
}

func TestCheckLeafTypes(t *testing.T) {
	for _, word := range append(strings.Fields("time leg wait dist load size open close hold room pos"), "0", "7", "999999999") {
		lookAtSound(t, "let x = "+word+"; let y = x;", impl.TypeInt, impl.TypeInt)
		lookAtSound(t, "sum "+word+" from 1 in 1 .. 2;")
		lookAtSound(t, "ride "+word+" in 1 .. 2;")
		for _, rest := range []string{"each @;", "end @;", "never @ then true;", "streak @ most 1;"} {
			lookAtCheck(t, strings.Replace(rest, "@", word, 1), impl.CheckRes{Err: impl.CheckWhole, Item: 0, At: 0})
		}
		lookAtCheck(t, "never true then "+word+";", impl.CheckRes{Err: impl.CheckWhole, Item: 0, At: 1})
	}
	for _, word := range []string{"pick", "drop", "has a", "has p", "skill a", "skill p", "true", "false"} {
		lookAtSound(t, "let x = "+word+"; let y = x;", impl.TypeBool, impl.TypeBool)
		lookAtSound(t, strings.ReplaceAll("each @; end @; never @ then @; streak @ most 3;", "@", word))
		lookAtCheck(t, "sum "+word+" from 0 in 0 .. 0;", impl.CheckRes{Err: impl.CheckWhole, Item: 0, At: 0})
		lookAtCheck(t, "ride "+word+" in 0 .. 0;", impl.CheckRes{Err: impl.CheckWhole, Item: 0, At: 0})
	}
}

// ofType are the trees of a leaf, a name and an operator, of type int and of type bool.
var ofType = map[byte][]exprTree{
	'i': {number(1), attribute(impl.AttrPos), named("n"), prefixed(impl.OpNeg, number(2)), joined(impl.BinAdd, number(1), named("n")),
		called(impl.CallIf, named("p"), named("n"), number(3))},
	'b': {attribute(impl.AttrPick), named("p"), prefixed(impl.OpNot, named("p")), joined(impl.BinLe, number(1), named("n")),
		joined(impl.BinEq, named("p"), named("p")), called(impl.CallIf, named("p"), named("p"), named("p"))},
}

func operatorTrees() []func(kids ...exprTree) exprTree {
	var ways []func(kids ...exprTree) exprTree
	add := func(op impl.Op) {
		ways = append(ways, func(kids ...exprTree) exprTree { return exprTree{op: op, kids: kids} })
	}
	add(impl.Op{Kind: impl.OpNeg})
	add(impl.Op{Kind: impl.OpNot})
	for val := range int64(8) {
		add(impl.Op{Kind: impl.OpBin, Val: val})
	}
	for val := range int64(3) {
		add(impl.Op{Kind: impl.OpCall, Val: val})
	}
	return ways
}

// letters are all words of so many letters i and b.
func letters(n int) []string {
	words := []string{""}
	for range n {
		var longer []string
		for _, w := range words {
			longer = append(longer, w+"i", w+"b")
		}
		words = longer
	}
	return words
}

func TestCheckEveryOperatorWithEveryType(t *testing.T) {
	lets := progOf(
		ruleTree{item: impl.Item{Kind: impl.ItemLet, Name: "n"}, e: number(5)},
		ruleTree{item: impl.Item{Kind: impl.ItemLet, Name: "p"}, e: attribute(impl.AttrDrop)},
	)
	looked := 0
	for _, way := range operatorTrees() {
		name := way().operator()
		arity := len(typings[name][0]) - 2
		for _, word := range letters(arity) {
			gives := int64(0)
			for _, typing := range typings[name] {
				if takes, g, _ := strings.Cut(typing, ">"); takes == word {
					gives = map[string]int64{"i": 1, "b": 2}[g]
				}
			}
			for shift := range 6 {
				kids := make([]exprTree, arity)
				for i := range kids {
					kids[i] = ofType[word[i]][(shift+i)%6]
				}
				x := way(kids...)
				at := int64(len(x.postfix())) - 1
				p := copyProg(lets)
				p.Items = append(p.Items, impl.Item{Kind: impl.ItemLet, Name: "x", E: x.postfix()})
				want := impl.CheckRes{Item: -1, At: -1, Types: []int64{1, 2, gives}}
				if gives == 0 {
					want = impl.CheckRes{Err: impl.CheckOp, Item: 2, At: at}
				}
				if got := impl.Check(p); !sameCheck(got, want) {
					t.Errorf("%s: %+v, not %+v", x.canonical(), got, want)
				}
				looked++
			}
		}
	}
	if looked != 6*(2*2+4*8+4*2+8) {
		t.Errorf("%d operators with operands", looked)
	}
}

func TestCheckTypesOfLets(t *testing.T) {
	lookAtSound(t, "")
	lookAtSound(t, "each pick; apart a a; lifo 0;")
	lookAtSound(t, "let a = 1; let b = pick; let c = a < 2; let d = if(b, a, 3); let e = if(c, b, c); let f = a = d; let g = b = c; let h = -d; let i = not e;",
		1, 2, 2, 1, 2, 2, 2, 1, 2)
	lookAtSound(t, "each pick; let b = drop; lifo 1; let a = min(1, max(leg, 2)); each b; let pic = (pick = drop) = (1 = 2);", 2, 1, 2)
	lookAtSound(t, "let a = has a; let b = skill b; each a and b;", 2, 2)
	many, types := "", []int64{}
	for i := range 100 {
		name := string([]byte{'x', byte('a' + i/10), byte('a' + i%10)})
		many += "let " + name + " = " + []string{"1", "true", "leg"}[i%3] + ";"
		types = append(types, []int64{1, 2, 1}[i%3])
	}
	lookAtSound(t, many, types...)
}

func TestCheckProgramsThatAreNotValid(t *testing.T) {
	one := []impl.Op{{Kind: impl.OpNumber, Val: 1}}
	bad := []impl.Prog{
		progOfItem(impl.Item{}),
		progOfItem(impl.Item{Kind: 10}),
		progOfItem(impl.Item{Kind: -1}),
		progOfItem(impl.Item{Kind: impl.ItemEach}),
		progOfItem(impl.Item{Kind: impl.ItemLet, Name: "let", E: one}),
		progOfItem(impl.Item{Kind: impl.ItemApart, K: 16}),
		progOfItem(impl.Item{Kind: impl.ItemEach, E: one, F: one}),
		progOfOps(impl.Op{Kind: impl.OpNeg}),
		progOfOps(one[0], one[0]),
		progOfOps(impl.Op{Kind: 11}),
		{Items: slices.Repeat([]impl.Item{{Kind: impl.ItemApart}}, 101)},
		{Items: []impl.Item{{Kind: impl.ItemLet, Name: "a", E: one}, {Kind: impl.ItemLet, Name: "a", E: one}, {Kind: impl.ItemLifo, K: -1}}},
		{Items: []impl.Item{{Kind: impl.ItemEach, E: one}, {Kind: impl.ItemLifo, Hi: 1}}},
	}
	deep := slices.Concat(one, slices.Repeat([]impl.Op{{Kind: impl.OpNeg}}, 65))
	bad = append(bad, progOfOps(deep...), progOfOps(slices.Concat(one, slices.Repeat([]impl.Op{one[0], {Kind: impl.OpBin}}, 1000))...))
	for i, p := range bad {
		kept := copyProg(p)
		if got, want := impl.Check(p), (impl.CheckRes{Err: impl.CheckNoProg, Item: -1, At: -1}); !sameCheck(got, want) {
			t.Errorf("program %d, which is not valid: %+v", i, got)
		}
		if got := impl.Compile(p); !sameCode(got, impl.Code{}) {
			t.Errorf("program %d, which is not valid, has code %+v", i, got)
		}
		if !sameProg(p, kept) {
			t.Errorf("program %d is written into", i)
		}
	}
}

func TestCheckNames(t *testing.T) {
	lookAtFaults(t, []faultRow{
		{"each b;", impl.CheckName, 0, 0},
		{"let b = b;", impl.CheckName, 0, 0},
		{"let b = 1 + b;", impl.CheckName, 0, 1},
		{"let b = if(true, 1, -b);", impl.CheckName, 0, 2},
		{"let a = b; let b = 1;", impl.CheckName, 0, 0},
		{"let a = 1; let c = a + b; let b = 1;", impl.CheckName, 1, 1},
		{"let ab = 1; let abc = a;", impl.CheckName, 1, 0},
		{"let abc = 1; each ab;", impl.CheckName, 1, 0},
		{"each pick; end 1 < zz;", impl.CheckName, 1, 1},
		{"never pick then zz;", impl.CheckName, 0, 1},
		{"never pick and drop then drop or zz;", impl.CheckName, 0, 4},
		{"sum zz from 1 in 1 .. 2;", impl.CheckName, 0, 0},
		{"ride zz in 1 .. 2;", impl.CheckName, 0, 0},
		{"streak zz most 2;", impl.CheckName, 0, 0},
		{"each zz = yy;", impl.CheckName, 0, 0},
	})
	lookAtSound(t, "let a = 1; let b = a + a; let c = b < a; each c;", 1, 1, 2)
}

func TestCheckTwice(t *testing.T) {
	lookAtFaults(t, []faultRow{
		{"let a = 1; let a = 2;", impl.CheckTwice, 1, -1},
		{"let a = 1; let a = true;", impl.CheckTwice, 1, -1},
		{"let a = 1; let a = a;", impl.CheckTwice, 1, -1},
		{"let a = 1; let a = zz;", impl.CheckTwice, 1, -1},
		{"let a = 1; let a = 1 + true;", impl.CheckTwice, 1, -1},
		{"let a = 1; let b = 2; each pick; let c = 3; let a = not 1;", impl.CheckTwice, 4, -1},
		{"let a = 1; each a; let a = 2;", impl.CheckWhole, 1, 0},
		{"let a = 1; let b = zz; let a = 2;", impl.CheckName, 1, 0},
		{"let a = zz; let a = 1;", impl.CheckName, 0, 0},
		{"let a = 1 + true; let a = 1;", impl.CheckOp, 0, 2},
	})
	lookAtSound(t, "let a = 1; let aa = 2; let b = a; let ab = aa;", 1, 1, 1, 1)
}

func TestCheckLifo(t *testing.T) {
	lookAtFaults(t, []faultRow{
		{"lifo 1; lifo 1;", impl.CheckLifo, 1, -1},
		{"lifo 1; each pick; lifo 2;", impl.CheckLifo, 2, -1},
		{"lifo 0; ride leg in 0 .. 1; apart a b; lifo 0; lifo 3;", impl.CheckLifo, 3, -1},
		{"lifo 1; each 1; lifo 2;", impl.CheckWhole, 1, 0},
		{"lifo 1; each zz; lifo 2;", impl.CheckName, 1, 0},
		{"lifo 1; let a = 1; let a = 1; lifo 2;", impl.CheckTwice, 2, -1},
		{"lifo 1; lifo 2; each 1;", impl.CheckLifo, 1, -1},
	})
	lookAtSound(t, "lifo 1;")
	lookAtSound(t, "apart a b; apart a b; ride leg in 1 .. 2; ride leg in 1 .. 2; streak pick most 1; streak pick most 1; lifo 5; apart a b;")
}

func TestCheckOrderWithinAnItem(t *testing.T) {
	lookAtFaults(t, []faultRow{
		{"each 1 + pick;", impl.CheckOp, 0, 2},
		{"each -pick;", impl.CheckOp, 0, 1},
		{"each not not 1;", impl.CheckOp, 0, 1},
		{"each (1 = drop) and zz;", impl.CheckOp, 0, 2},
		{"each zz and (1 = drop);", impl.CheckName, 0, 0},
		{"each (1 and 2) + (true < 3);", impl.CheckOp, 0, 2},
		{"each 1 + 2 * 3;", impl.CheckWhole, 0, 4},
		{"end -leg;", impl.CheckWhole, 0, 1},
		{"sum not pick from 0 in 0 .. 1;", impl.CheckWhole, 0, 1},
		{"sum -pick from 0 in 0 .. 1;", impl.CheckOp, 0, 1},
		{"ride leg < 3 in 0 .. 1;", impl.CheckWhole, 0, 2},
		{"streak min(1, 2) most 1;", impl.CheckWhole, 0, 2},
		{"never pick then time;", impl.CheckWhole, 0, 1},
		{"never time then b;", impl.CheckWhole, 0, 0},
		{"never time then 1 + true;", impl.CheckWhole, 0, 0},
		{"never time then time;", impl.CheckWhole, 0, 0},
		{"never 1 + 2 then zz;", impl.CheckWhole, 0, 2},
		{"never 1 + true then zz;", impl.CheckOp, 0, 2},
		{"never zz then zz;", impl.CheckName, 0, 0},
		{"never pick then not time;", impl.CheckOp, 0, 2},
		{"never pick or drop then not time;", impl.CheckOp, 0, 4},
		{"never pick or drop then drop and 1 < 2 and zz;", impl.CheckName, 0, 8},
		{"never pick or drop then 1 + 2;", impl.CheckWhole, 0, 5},
		{"never not not pick then 1 + true;", impl.CheckOp, 0, 5},
		{"each if(1, 2, 3);", impl.CheckOp, 0, 3},
		{"each if(pick, 1, drop);", impl.CheckOp, 0, 3},
		{"each if(pick, 1, 2);", impl.CheckWhole, 0, 3},
		{"let a = pick; sum a from 0 in 0 .. 0;", impl.CheckWhole, 1, 0},
		{"let a = 1; let b = not a;", impl.CheckOp, 1, 1},
		{"let a = 1; let b = a = true;", impl.CheckOp, 1, 2},
	})
}

func TestCheckAnswersAreNewMemory(t *testing.T) {
	p := soundProg(t, "let a = 1; let b = true; let c = a; each b;")
	first := impl.Check(p)
	full := first.Types[:cap(first.Types)]
	for i := range full {
		full[i] = 99
	}
	if got := impl.Check(p); !slices.Equal(got.Types, []int64{1, 2, 1}) {
		t.Errorf("types %v after the first answer was written into", got.Types)
	}
}
