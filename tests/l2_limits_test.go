package tests

import (
	"strings"
	"testing"

	"loop.example/s0023/impl"
)

func TestSyntaxTextLength(t *testing.T) {
	pad := func(text string, n int) string { return text + strings.Repeat(" ", n-len(text)) }
	full := impl.ProgTextMax
	lookAtSyntax(t, pad("", full), 0, 0)
	lookAtSyntax(t, pad("# ", full), 0, 0)
	lookAtSyntax(t, pad("each pick;", full), 0, 0)
	lookAtSyntax(t, pad("each pick", full), impl.SynToken, int64(full))
	lookAtSyntax(t, pad("each pick # ;", full), impl.SynToken, int64(full))
	lookAtSyntax(t, pad("", full-1)+"A", impl.SynByte, int64(full-1))
	lookAtSyntax(t, pad("", full-10)+"each pick;", 0, 0)
	for _, text := range []string{"", "each pick;", "A", "pick", "# "} {
		lookAtSyntax(t, pad(text, full+1), impl.SynTooLong, 0)
		lookAtSyntax(t, pad(text, 3*full), impl.SynTooLong, 0)
	}
	lookAtSyntax(t, pad("", full)+"\x80", impl.SynTooLong, 0)
}

func TestSyntaxItemLimit(t *testing.T) {
	full := strings.Repeat("lifo 1;", impl.ItemMax)
	lookAtMark(t, full, 0)
	lookAtMark(t, full+" # lifo 1;\n", 0)
	for _, word := range strings.Fields("let each end sum never apart lifo ride streak") {
		lookAtMark(t, full+"@"+word, impl.SynItems)
		lookAtMark(t, full+" @"+word+" ; A", impl.SynItems)
		lookAtMark(t, strings.TrimSuffix(full, ";")+" @"+word, impl.SynToken)
	}
	lookAtMark(t, full+"@pick", impl.SynToken)
	lookAtMark(t, full+"@;", impl.SynToken)
	lookAtMark(t, full+"@x", impl.SynToken)
	lookAtMark(t, full+"@from", impl.SynToken)
	lookAtMark(t, full+"@A", impl.SynByte)
	lookAtMark(t, full+"@05", impl.SynForm)
	lookAtMark(t, full+"@each"+strings.Repeat("h", 17), impl.SynForm)
	every := "let a=1;each 1;end 1;sum 1 from 1 in 1..1;never 1 then 1;apart a b;lifo 1;ride 1 in 1..1;streak 1 most 1;"
	lookAtMark(t, strings.Repeat(every, 11)+"lifo 1;", 0)
	lookAtMark(t, strings.Repeat(every, 11)+"lifo 1;@let", impl.SynItems)
}

func TestSyntaxOpLimit(t *testing.T) {
	full := textOfOps(impl.OpMax)
	lookAtMark(t, full, 0)
	lookAtMark(t, full+"lifo 5; apart a b;", 0)
	for _, first := range []string{"7", "x", "pick", "time", "true", "false", "has", "skill", "-", "not", "min", "max", "if"} {
		lookAtMark(t, full+"each @"+first, impl.SynOps)
		lookAtMark(t, full+"each @"+first+" A", impl.SynOps)
		lookAtMark(t, full+"let y = (@"+first, impl.SynOps)
		lookAtMark(t, textOfOps(impl.OpMax-1)+"never 1 then @"+first, impl.SynOps)
	}
	for _, sign := range binaryWords {
		lookAtMark(t, textOfOps(impl.OpMax-1)+"each 1 @"+sign+" 1;", impl.SynOps)
		lookAtMark(t, textOfOps(impl.OpMax-2)+"each 1 "+sign+" @1;", impl.SynOps)
		lookAtMark(t, textOfOps(impl.OpMax-3)+"each 1 "+sign+" 1;", 0)
	}
}

func TestSyntaxTokensThatMakeNoOp(t *testing.T) {
	one, three := textOfOps(impl.OpMax-1), textOfOps(impl.OpMax-3)
	for _, rest := range []string{
		"each ((((1))));", "each has a;", "each skill p;", "sum 1 from -3 in -4 .. -5;", "ride 1 in 2 .. 3;", "streak 1 most 7;", "let y = 1;",
	} {
		lookAtMark(t, one+rest, 0)
		lookAtMark(t, one+rest+"each @1;", impl.SynOps)
	}
	for _, rest := range []string{"each min(1, 2);", "each max((1), (2));", "each --1;", "each not -1;", "never 1 then not 2;", "never not 1 then 2;"} {
		lookAtMark(t, three+rest, 0)
		lookAtMark(t, three+rest+"each (@1;", impl.SynOps)
	}
	lookAtMark(t, textOfOps(impl.OpMax-4)+"each if(1, 2, 3);", 0)
	lookAtMark(t, textOfOps(impl.OpMax-3)+"each if(1, 2, @3);", impl.SynOps)
}

// What stands in error by SynToken or by its bytes is told so, even where the ops are used up.
func TestSyntaxOrderOfLimits(t *testing.T) {
	full, one := textOfOps(impl.OpMax), textOfOps(impl.OpMax-1)
	lookAtRows(t, []markedRow{
		{full + "each @;", impl.SynToken}, {full + "each @then", impl.SynToken}, {full + "each @<", impl.SynToken}, {full + "each @A", impl.SynByte},
		{full + "each @05", impl.SynForm}, {one + "each 1 @1", impl.SynToken}, {one + "each 1 @not", impl.SynToken}, {one + "each 1@)", impl.SynToken},
		{one + "each 1 @has", impl.SynToken}, {textOfOps(impl.OpMax-3) + "each 1<1@<1", impl.SynToken}, {one + "each has @q", impl.SynToken},
		{one + "each min @1", impl.SynToken}, {full + strings.Repeat("lifo 1;", 98) + "@each -", impl.SynItems}, {full + "lifo @-", impl.SynToken},
	})
	// With as many open as may be: "(" makes no op, a sign or a "not" does.
	const most = impl.DepthMax
	signs := textOfOps(impl.OpMax-most) + "let y=" + strings.Repeat("-", most)
	lookAtRows(t, []markedRow{
		{signs + "@-", impl.SynOps}, {signs + "@not", impl.SynOps}, {signs + "@(", impl.SynDepth}, {signs + "@1", impl.SynOps}, {signs + "@min", impl.SynOps},
		{signs + "@)", impl.SynToken}, {signs + "@;", impl.SynToken}, {signs + "@A", impl.SynByte}, {signs + "@00", impl.SynForm},
	})
	calls := textOfOps(impl.OpMax-most-1) + "let y=" + strings.Repeat("min(", most) + "max"
	lookAtRows(t, []markedRow{{calls + "@(", impl.SynDepth}, {calls + " @1", impl.SynToken}, {calls + "@-", impl.SynToken}})
	groups := "let y=" + strings.Repeat("(", most)
	lookAtRows(t, []markedRow{
		{groups + "1 @(", impl.SynToken}, {groups + "1 @not", impl.SynToken}, {groups + "@)", impl.SynToken}, {groups + "@(", impl.SynDepth},
		{groups + "@-", impl.SynDepth}, {groups + "@not", impl.SynDepth}, {groups + "min@(", impl.SynDepth}, {groups + "1 - @-", impl.SynDepth},
		{groups + "1 -@A", impl.SynByte}, {groups + "has @(", impl.SynToken}, {groups + "@( A", impl.SynDepth}, {groups + "@(-", impl.SynDepth},
	})
}

// opener is a way to open one more, and to close it; an '@' stands in marked before the token that opens.
type opener struct{ left, right, marked string }

func openers() []opener {
	return []opener{
		{"(", ")", "@("}, {"-", "", "@-"}, {"not ", "", "@not "}, {"min(", ",1)", "min@("}, {"max(1,", ")", "max@(1,"},
		{"if(", ",1,1)", "if@("}, {"if(1,", ",1)", "if@(1,"}, {"if(1,1,", ")", "if@(1,1,"},
	}
}

func nested(o opener, n int, inner string) string {
	return strings.Repeat(o.left, n) + inner + strings.Repeat(o.right, n)
}

func TestSyntaxDepthLimit(t *testing.T) {
	const most = impl.DepthMax
	for _, o := range openers() {
		deepest := nested(o, most, "1")
		lookAtMark(t, "let x="+deepest+";", 0)
		lookAtMark(t, "let x="+deepest+"+"+deepest+"*"+deepest+";", 0)
		lookAtMark(t, "never "+deepest+" then "+deepest+";each "+deepest+";", 0)
		lookAtMark(t, "let x="+nested(o, most, "1+1*1")+";", 0)
		for _, next := range openers() {
			lookAtMark(t, "let x="+strings.Repeat(o.left, most)+next.marked, impl.SynDepth)
			lookAtMark(t, "let x="+deepest+"+"+strings.Repeat(o.left, most)+next.marked, impl.SynDepth)
			lookAtMark(t, "let x="+nested(o, most-1, nested(next, 1, "1"))+";", 0)
			lookAtMark(t, "let x="+nested(o, most/2, nested(next, most/2, "1"))+";", 0)
			lookAtMark(t, "let x="+nested(o, most-1, nested(next, 1, "1")+"+"+nested(next, 1, "1"))+";", 0)
		}
	}
}

func TestSyntaxComplete(t *testing.T) {
	const most = impl.DepthMax
	signs := strings.Repeat("-", most-1)
	nots := strings.Repeat("not ", most-1)
	lookAtRows(t, []markedRow{
		{"let x=" + signs + "(1) - -1;", 0},
		{"let x=" + signs + "(1 - 1);", 0},
		{"let x=" + signs + "(1 - @-1);", impl.SynDepth},
		{"let x=" + signs + "(@-1);", impl.SynDepth},
		{"let x=" + signs + "min(1, 2) - (" + signs + "1);", 0},
		{"let x=" + signs + "min(1, @(2));", impl.SynDepth},
		{"let x=" + nots + "(1) and " + nots + "(1);", 0},
		{"let x=" + nots + "-1 - -(1);", 0},
		{"let x=" + nots + "-@-1;", impl.SynDepth},
		{"let x=" + nots + "has a = (" + nots + "has b);", 0},
		{"let x=" + signs + "-has a - -skill b;", 0},
		{"let x=" + signs + "-x*-y*-pick*-true*(-(1));", 0},
		{"let x=(" + signs + "1" + strings.Repeat("-"+signs+"1", 20) + ");", 0},
		{"let x=(-" + signs[1:] + "1-" + signs + "@-1);", impl.SynDepth},
		{"each " + signs + "-1;each " + signs + "-1;", 0},
		{"let x=" + strings.Repeat("(1)+", 300) + "1;", 0},
		{"let x=" + strings.Repeat("-(1)+", 300) + "1;", 0},
		{"let x=" + strings.Repeat("((", most/2) + "1" + strings.Repeat(")+(1))", most/2) + ";", 0},
		{"let x=" + strings.Repeat("(", most) + "1" + strings.Repeat(")", most) + "+" + strings.Repeat("(", most) + "@(", impl.SynDepth},
		{"let x=" + strings.Repeat("(", most) + "1)+(1)+(1)+(@(1)", impl.SynDepth},
		{"let x=" + strings.Repeat("(", most) + "1))+((1)+(1))+((@(1)", impl.SynDepth},
	})
}
