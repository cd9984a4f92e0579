package tests

import (
	"math/rand"
	"strings"
	"testing"

	"loop.example/s0023/impl"
)

func lookAtPrint(t *testing.T, p impl.Prog, want string) {
	t.Helper()
	kept := copyProg(p)
	if !impl.ValidProg(p) {
		t.Errorf("the program of %.100q is not valid", want)
	}
	text := impl.PrintProg(p)
	if !sameProg(p, kept) {
		t.Errorf("%.100q: ValidProg or PrintProg wrote into its argument", want)
	}
	if string(text) != want {
		t.Errorf("the print is %.300q, not %.300q", text, want)
	}
	if len(text) >= impl.ProgTextMax {
		t.Errorf("a print of %d bytes", len(text))
	}
	got := impl.ParseProg(text)
	clear(text)
	if got.Err != 0 || got.At != 0 || !sameProg(got.Prog, p) {
		t.Errorf("%.300q: error %d at %d, or another program", want, got.Err, got.At)
	}
	if again := string(impl.PrintProg(got.Prog)); again != want {
		t.Errorf("%.300q is printed %.300q the second time", want, again)
	}
}

func lookAtExpr(t *testing.T, x exprTree, want string) {
	t.Helper()
	lookAtPrint(t, progOf(ruleTree{item: impl.Item{Kind: impl.ItemEach}, e: x}), "each "+want+";\n")
}

func TestPrintEveryItem(t *testing.T) {
	one, pick := []impl.Op{{Kind: impl.OpNumber, Val: 1}}, []impl.Op{{Kind: impl.OpAttr, Val: impl.AttrPick}}
	rows := []struct {
		item impl.Item
		want string
	}{
		{impl.Item{Kind: impl.ItemLet, Name: "a", E: one}, "let a = 1;\n"},
		{impl.Item{Kind: impl.ItemLet, Name: "abcdefghijklmn_9", E: pick}, "let abcdefghijklmn_9 = pick;\n"},
		{impl.Item{Kind: impl.ItemEach, E: pick}, "each pick;\n"},
		{impl.Item{Kind: impl.ItemEnd, E: pick}, "end pick;\n"},
		{impl.Item{Kind: impl.ItemSum, E: one, K: -3, Lo: 0, Hi: 999999999}, "sum 1 from -3 in 0 .. 999999999;\n"},
		{impl.Item{Kind: impl.ItemSum, E: one, K: 0, Lo: -999999999, Hi: -7}, "sum 1 from 0 in -999999999 .. -7;\n"},
		{impl.Item{Kind: impl.ItemNever, E: pick, F: one}, "never pick then 1;\n"},
		{impl.Item{Kind: impl.ItemApart, K: 0, Lo: 15}, "apart a p;\n"},
		{impl.Item{Kind: impl.ItemApart, K: 3, Lo: 3}, "apart d d;\n"},
		{impl.Item{Kind: impl.ItemLifo, K: 0}, "lifo 0;\n"},
		{impl.Item{Kind: impl.ItemLifo, K: 999999999}, "lifo 999999999;\n"},
		{impl.Item{Kind: impl.ItemRide, E: one, Lo: 5, Hi: -5}, "ride 1 in 5 .. -5;\n"},
		{impl.Item{Kind: impl.ItemStreak, E: pick, K: 12}, "streak pick most 12;\n"},
	}
	var all impl.Prog
	text := ""
	for _, r := range rows {
		lookAtPrint(t, impl.Prog{Items: []impl.Item{r.item}}, r.want)
		all.Items = append(all.Items, r.item)
		text += r.want
	}
	lookAtPrint(t, all, text)
	lookAtPrint(t, impl.Prog{}, "")
	lookAtPrint(t, impl.Prog{Items: []impl.Item{}}, "")
}

func TestPrintEveryOp(t *testing.T) {
	leaf := func(kind, val int64) exprTree { return exprTree{op: impl.Op{Kind: kind, Val: val}} }
	for i, word := range strings.Fields("time leg wait dist load size open close hold room pos pick drop") {
		lookAtExpr(t, leaf(impl.OpAttr, int64(i)), word)
	}
	for tag := range int64(16) {
		letter := string(rune('a' + tag))
		lookAtExpr(t, leaf(impl.OpHas, tag), "has "+letter)
		lookAtExpr(t, leaf(impl.OpSkill, tag), "skill "+letter)
		lookAtExpr(t, named(letter), letter)
	}
	lookAtExpr(t, leaf(impl.OpBool, 0), "false")
	lookAtExpr(t, leaf(impl.OpBool, 1), "true")
	lookAtExpr(t, number(0), "0")
	lookAtExpr(t, number(impl.NumMax), "999999999")
	for val, word := range strings.Fields("* + - < <= = and or") {
		lookAtExpr(t, joined(int64(val), number(1), named("b")), "1 "+word+" b")
	}
	lookAtExpr(t, called(impl.CallMin, number(1), number(2)), "min(1, 2)")
	lookAtExpr(t, called(impl.CallMax, number(1), number(2)), "max(1, 2)")
	lookAtExpr(t, called(impl.CallIf, number(1), number(2), number(3)), "if(1, 2, 3)")
	lookAtExpr(t, prefixed(impl.OpNeg, number(5)), "-5")
	lookAtExpr(t, prefixed(impl.OpNeg, prefixed(impl.OpNeg, number(5))), "--5")
	lookAtExpr(t, prefixed(impl.OpNot, prefixed(impl.OpNot, number(5))), "not not 5")
	lookAtExpr(t, prefixed(impl.OpNeg, prefixed(impl.OpNot, number(5))), "-not 5")
	lookAtExpr(t, prefixed(impl.OpNot, prefixed(impl.OpNeg, number(5))), "not -5")
	lookAtExpr(t, prefixed(impl.OpNot, leaf(impl.OpHas, 2)), "not has c")
}

func TestPrintParenthesesWrittenOut(t *testing.T) {
	rows := [][2]string{
		{"(1+2)+3", "1 + 2 + 3"}, {"1+(2+3)", "1 + (2 + 3)"}, {"1-(2-3)", "1 - (2 - 3)"}, {"(1-2)-3", "1 - 2 - 3"},
		{"1+(2*3)", "1 + 2 * 3"}, {"(1+2)*3", "(1 + 2) * 3"}, {"1*(2*3)", "1 * (2 * 3)"}, {"1*(2+3)", "1 * (2 + 3)"},
		{"(1<2)<3", "(1 < 2) < 3"}, {"1<(2<3)", "1 < (2 < 3)"}, {"(1=2)<=(3<4)", "(1 = 2) <= (3 < 4)"}, {"(1+2)<(3+4)", "1 + 2 < 3 + 4"},
		{"1+(2<3)", "1 + (2 < 3)"}, {"(1<2)+3", "(1 < 2) + 3"}, {"not (1<2)", "not (1 < 2)"}, {"(not 1)<2", "not 1 < 2"}, {"not 1<2", "not 1 < 2"},
		{"(a and b) or c", "a and b or c"}, {"a and (b or c)", "a and (b or c)"}, {"a or (b or c)", "a or (b or c)"}, {"a or (b and c)", "a or b and c"},
		{"(a or b) and c", "(a or b) and c"}, {"(a and b) and c", "a and b and c"}, {"a and (b and c)", "a and (b and c)"},
		{"-(2*3)", "-(2 * 3)"}, {"-2*3", "-2 * 3"}, {"2*(-3)", "2 * -3"}, {"-(-3)", "--3"}, {"-(2)", "-2"}, {"-(min(1,2))", "-min(1, 2)"},
		{"not(a and b)", "not (a and b)"}, {"not(not a)", "not not a"}, {"not (a) and b", "not a and b"}, {"2-(-3)", "2 - -3"}, {"(-2)-3", "-2 - 3"},
		{"min((1),((2)+3))", "min(1, 2 + 3)"}, {"if((a or b),(1<2),(3))", "if(a or b, 1 < 2, 3)"}, {"(((a)))", "a"}, {"(a)=(b)", "a = b"},
	}
	for _, r := range rows {
		got := impl.ParseProg([]byte("each " + r[0] + ";"))
		if got.Err != 0 {
			t.Errorf("%q: error %d at %d", r[0], got.Err, got.At)
			continue
		}
		lookAtPrint(t, got.Prog, "each "+r[1]+";\n")
	}
}

// samples is an expression of each strength and shape.
func samples() []exprTree {
	out := []exprTree{number(1), named("a"), called(impl.CallMin, number(1), number(2)), called(impl.CallIf, named("a"), number(1), number(2)),
		prefixed(impl.OpNeg, number(3)), prefixed(impl.OpNot, named("b")), {op: impl.Op{Kind: impl.OpHas, Val: 4}}}
	for val := range int64(8) {
		out = append(out, joined(val, named("x"), number(7)))
	}
	return out
}

func TestPrintParenthesesOfEveryPair(t *testing.T) {
	for _, x := range samples() {
		for _, kind := range []int64{impl.OpNeg, impl.OpNot} {
			above := prefixed(kind, x)
			lookAtExpr(t, above, above.canonical())
			lookAtNoNeedlessParens(t, above.canonical())
		}
		for val := range int64(8) {
			for _, y := range samples() {
				above := joined(val, x, y)
				lookAtExpr(t, above, above.canonical())
				lookAtNoNeedlessParens(t, above.canonical())
			}
		}
		for val := range int64(3) {
			kids := []exprTree{x, number(1), x}[:2+val/2]
			lookAtExpr(t, called(val, kids...), called(val, kids...).canonical())
		}
	}
}

// lookAtNoNeedlessParens takes away each pair of parentheses in turn: what is left is never the same expression.
func lookAtNoNeedlessParens(t *testing.T, expr string) {
	t.Helper()
	whole := impl.ParseProg([]byte("each " + expr + ";"))
	for i := range expr {
		if expr[i] != '(' || i > 0 && expr[i-1] >= 'a' && expr[i-1] <= 'z' {
			continue
		}
		j, depth := i+1, 1
		for ; depth > 0; j++ {
			depth += strings.Count(expr[j:j+1], "(") - strings.Count(expr[j:j+1], ")")
		}
		less := expr[:i] + " " + expr[i+1:j-1] + " " + expr[j:]
		if got := impl.ParseProg([]byte("each " + less + ";")); got.Err == 0 && sameProg(got.Prog, whole.Prog) {
			t.Errorf("the parentheses at %d of %q are needless", i, expr)
		}
	}
}

func TestPrintOfRandomPrograms(t *testing.T) {
	r := rand.New(rand.NewSource(8))
	for range 2000 {
		rules := randomRules(r)
		lookAtPrint(t, progOf(rules...), canonicalText(rules))
		lookAtNoNeedlessParens(t, randomExpr(r, r.Intn(25)).canonical())
	}
}

// loosely is a text of the same expression with needless parentheses, spaces, newlines and comments.
func loosely(r *rand.Rand, x exprTree) string {
	wrap := func(parent exprTree, kid int) int {
		n := r.Intn(3) / 2
		if parent.parens(kid) {
			n++
		}
		return n
	}
	sep := func() string { return []string{"", "", "", " ", "\n", " # no ; words\n", "#\n"}[r.Intn(7)] }
	return x.write(wrap, sep)
}

func TestParseOfLooseTexts(t *testing.T) {
	r := rand.New(rand.NewSource(9))
	for range 2000 {
		rules := randomRules(r)
		text := ""
		for _, x := range rules {
			text += x.write(func(e exprTree) string { return loosely(r, e) })
		}
		got := impl.ParseProg([]byte(text))
		if got.Err != 0 || got.At != 0 || !sameProg(got.Prog, progOf(rules...)) {
			t.Errorf("error %d at %d, or another program, from\n%s", got.Err, got.At, text)
		}
	}
}

func TestParseWithoutSpaces(t *testing.T) {
	got := impl.ParseProg([]byte("let a=-b*c<=min(1,d)and not e or has f;apart g\nh;sum-i from-1 in-2..-3;"))
	want := "let a = -b * c <= min(1, d) and not e or has f;\napart g h;\nsum -i from -1 in -2 .. -3;\n"
	if got.Err != 0 {
		t.Fatalf("error %d at %d", got.Err, got.At)
	}
	lookAtPrint(t, got.Prog, want)
}

// The longest prints: the widest names and numbers, the widest operators, and as many parentheses as may be.
func TestPrintOfTheLargestPrograms(t *testing.T) {
	wide := named(strings.Repeat("w", impl.NameMax))
	x := wide
	for i := range 999 {
		if i < impl.DepthMax {
			x = joined(impl.BinAnd, wide, x)
		} else {
			x = joined(impl.BinAnd, x, wide)
		}
	}
	lookAtExpr(t, x, x.canonical())
	var rules []ruleTree
	for range impl.ItemMax {
		deep := wide
		for range (impl.OpMax/impl.ItemMax - 1) / 3 {
			deep = joined(impl.BinSub, prefixed(impl.OpNot, deep), wide)
		}
		rules = append(rules, ruleTree{item: impl.Item{Kind: impl.ItemSum, K: -impl.NumMax, Lo: -impl.NumMax, Hi: -impl.NumMax}, e: deep})
	}
	lookAtPrint(t, progOf(rules...), canonicalText(rules))
}

func TestAnswersShareNoMemory(t *testing.T) {
	text := []byte("let abc = def + 1; never a < b then c; each min(x, y);")
	got := impl.ParseProg(text)
	kept := copyProg(got.Prog)
	clear(text)
	if !sameProg(got.Prog, kept) {
		t.Errorf("the program hangs on its text")
	}
	for i := range got.Prog.Items {
		_ = append(got.Prog.Items[i].E, impl.Op{Kind: 99})
		_ = append(got.Prog.Items[i].F, impl.Op{Kind: 99})
		for j := range got.Prog.Items[i].E {
			got.Prog.Items[i].E[j] = impl.Op{}
		}
		kept.Items[i].E = got.Prog.Items[i].E
		if !sameProg(got.Prog, kept) {
			t.Errorf("the lists of item %d lie in another's memory", i)
		}
	}
}
