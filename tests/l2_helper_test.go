package tests

import (
	"math/rand"
	"slices"
	"strconv"
	"strings"

	"loop.example/s0023/impl"
)

// reservedWords and attributeWords are written out here anew, as the document lists them.
var reservedWords = strings.Fields("let each end sum from in never then apart lifo ride streak most and or not min max if has skill true false time leg wait dist load size open close hold room pos pick drop")

var attributeWords = strings.Fields("time leg wait dist load size open close hold room pos pick drop")

var binaryWords = strings.Fields("* + - < <= = and or")

// exprTree is an expression of the tests' own, so that nothing here leans on how the program keeps one.
type exprTree struct {
	op   impl.Op
	kids []exprTree
}

func number(n int64) exprTree { return exprTree{op: impl.Op{Kind: impl.OpNumber, Val: n}} }

func named(name string) exprTree { return exprTree{op: impl.Op{Kind: impl.OpName, Name: name}} }

func prefixed(kind int64, kid exprTree) exprTree {
	return exprTree{op: impl.Op{Kind: kind}, kids: []exprTree{kid}}
}

func joined(val int64, left, right exprTree) exprTree {
	return exprTree{op: impl.Op{Kind: impl.OpBin, Val: val}, kids: []exprTree{left, right}}
}

func called(val int64, kids ...exprTree) exprTree {
	return exprTree{op: impl.Op{Kind: impl.OpCall, Val: val}, kids: kids}
}

func (x exprTree) postfix() []impl.Op {
	var ops []impl.Op
	for _, k := range x.kids {
		ops = append(ops, k.postfix()...)
	}
	return append(ops, x.op)
}

func (x exprTree) strength() int {
	switch x.op.Kind {
	case impl.OpBin:
		return map[string]int{"or": 1, "and": 2, "<": 3, "<=": 3, "=": 3, "+": 4, "-": 4, "*": 5}[binaryWords[x.op.Val]]
	case impl.OpNeg, impl.OpNot:
		return 6
	}
	return 7
}

// parens is the document's 2.4, sentence by sentence.
func (x exprTree) parens(kid int) bool {
	s, own := x.strength(), x.kids[kid].strength()
	switch {
	case x.op.Kind == impl.OpBin && kid == 0:
		return own < s || own == 3 && s == 3
	case x.op.Kind == impl.OpBin:
		return own <= s
	case x.op.Kind == impl.OpNeg || x.op.Kind == impl.OpNot:
		return own <= 5
	}
	return false
}

func (x exprTree) nesting() int {
	if len(x.kids) == 0 {
		return 0
	}
	most := 0
	for i, k := range x.kids {
		w := k.nesting()
		if x.parens(i) {
			w++
		}
		most = max(most, w)
	}
	if x.op.Kind == impl.OpBin {
		return most
	}
	return 1 + most
}

// write puts the expression into words, with the parentheses that wrap asks for; sep stands between words that may touch.
func (x exprTree) write(wrap func(parent exprTree, kid int) int, sep func() string) string {
	kids := make([]string, len(x.kids))
	for i, k := range x.kids {
		n := wrap(x, i)
		kids[i] = strings.Repeat("("+sep(), n) + k.write(wrap, sep) + strings.Repeat(sep()+")", n)
	}
	v := x.op.Val
	switch x.op.Kind {
	case impl.OpNumber:
		return strconv.FormatInt(v, 10)
	case impl.OpName:
		return x.op.Name
	case impl.OpAttr:
		return attributeWords[v]
	case impl.OpHas:
		return "has " + sep() + string(rune('a'+v))
	case impl.OpSkill:
		return "skill " + sep() + string(rune('a'+v))
	case impl.OpBool:
		return []string{"false", "true"}[v]
	case impl.OpNeg:
		return "-" + sep() + kids[0]
	case impl.OpNot:
		return "not " + sep() + kids[0]
	case impl.OpBin:
		return kids[0] + " " + sep() + binaryWords[v] + " " + sep() + kids[1]
	}
	return []string{"min", "max", "if"}[v] + sep() + "(" + strings.Join(kids, sep()+", "+sep()) + ")"
}

func (x exprTree) canonical() string {
	wrap := func(parent exprTree, kid int) int {
		if parent.parens(kid) {
			return 1
		}
		return 0
	}
	return x.write(wrap, func() string { return "" })
}

// ruleTree is an item with trees in place of its lists.
type ruleTree struct {
	item impl.Item
	e, f exprTree
}

func hasE(kind int64) bool { return kind != impl.ItemApart && kind != impl.ItemLifo }

func (x ruleTree) value() impl.Item {
	it := x.item
	if hasE(it.Kind) {
		it.E = x.e.postfix()
	}
	if it.Kind == impl.ItemNever {
		it.F = x.f.postfix()
	}
	return it
}

func (x ruleTree) canonical() string {
	return x.write(func(e exprTree) string { return e.canonical() })
}

func (x ruleTree) write(text func(exprTree) string) string {
	it := x.item
	k, lo, hi := strconv.FormatInt(it.K, 10), strconv.FormatInt(it.Lo, 10), strconv.FormatInt(it.Hi, 10)
	switch it.Kind {
	case impl.ItemLet:
		return "let " + it.Name + " = " + text(x.e) + ";\n"
	case impl.ItemEach:
		return "each " + text(x.e) + ";\n"
	case impl.ItemEnd:
		return "end " + text(x.e) + ";\n"
	case impl.ItemSum:
		return "sum " + text(x.e) + " from " + k + " in " + lo + " .. " + hi + ";\n"
	case impl.ItemNever:
		return "never " + text(x.e) + " then " + text(x.f) + ";\n"
	case impl.ItemApart:
		return "apart " + string(rune('a'+it.K)) + " " + string(rune('a'+it.Lo)) + ";\n"
	case impl.ItemLifo:
		return "lifo " + k + ";\n"
	case impl.ItemRide:
		return "ride " + text(x.e) + " in " + lo + " .. " + hi + ";\n"
	}
	return "streak " + text(x.e) + " most " + k + ";\n"
}

func progOf(rules ...ruleTree) impl.Prog {
	var p impl.Prog
	for _, x := range rules {
		p.Items = append(p.Items, x.value())
	}
	return p
}

func randomName(r *rand.Rand) string {
	for {
		letters := "abpqz09_"
		name := string(rune('a' + r.Intn(26)))
		for range r.Intn(impl.NameMax) >> r.Intn(5) {
			name += string(letters[r.Intn(len(letters))])
		}
		if !slices.Contains(reservedWords, name) {
			return name
		}
	}
}

func randomNumber(r *rand.Rand) int64 { return r.Int63n(impl.NumMax+1) >> r.Intn(31) }

func randomSigned(r *rand.Rand) int64 { return randomNumber(r) * int64(1-r.Intn(2)*2) }

func randomLeaf(r *rand.Rand) exprTree {
	op := impl.Op{Kind: 1 + r.Int63n(6)}
	switch op.Kind {
	case impl.OpNumber:
		op.Val = randomNumber(r)
	case impl.OpName:
		op.Name = randomName(r)
	case impl.OpAttr:
		op.Val = r.Int63n(13)
	case impl.OpBool:
		op.Val = r.Int63n(2)
	default:
		op.Val = r.Int63n(16)
	}
	return exprTree{op: op}
}

// randomExpr has about as many ops as it is told.
func randomExpr(r *rand.Rand, size int) exprTree {
	if size <= 1 {
		return randomLeaf(r)
	}
	switch r.Intn(6) {
	case 0:
		return prefixed(impl.OpNeg+r.Int63n(2), randomExpr(r, size-1))
	case 1:
		part := size / 3
		val := r.Int63n(3)
		if val == impl.CallIf {
			return called(val, randomExpr(r, part), randomExpr(r, part), randomExpr(r, part))
		}
		return called(val, randomExpr(r, part), randomExpr(r, size-1-part))
	}
	left := 1 + r.Intn(size-1)
	return joined(r.Int63n(8), randomExpr(r, left), randomExpr(r, size-1-left))
}

func randomRule(r *rand.Rand, size int) ruleTree {
	x := ruleTree{item: impl.Item{Kind: 1 + r.Int63n(9)}, e: randomExpr(r, size), f: randomExpr(r, size/2)}
	switch x.item.Kind {
	case impl.ItemLet:
		x.item.Name = randomName(r)
	case impl.ItemSum:
		x.item.K, x.item.Lo, x.item.Hi = randomSigned(r), randomSigned(r), randomSigned(r)
	case impl.ItemApart:
		x.item.K, x.item.Lo = r.Int63n(16), r.Int63n(16)
	case impl.ItemLifo, impl.ItemStreak:
		x.item.K = randomNumber(r)
	case impl.ItemRide:
		x.item.Lo, x.item.Hi = randomSigned(r), randomSigned(r)
	}
	return x
}

func randomRules(r *rand.Rand) []ruleTree {
	var rules []ruleTree
	for range r.Intn(5) {
		rules = append(rules, randomRule(r, r.Intn(20)))
	}
	return rules
}

func canonicalText(rules []ruleTree) string {
	text := ""
	for _, x := range rules {
		text += x.canonical()
	}
	return text
}

func copyProg(p impl.Prog) impl.Prog {
	out := impl.Prog{Items: slices.Clone(p.Items)}
	for i, it := range out.Items {
		out.Items[i].E, out.Items[i].F = slices.Clone(it.E), slices.Clone(it.F)
	}
	return out
}

func sameItem(x, y impl.Item) bool {
	return x.Kind == y.Kind && x.Name == y.Name && slices.Equal(x.E, y.E) && slices.Equal(x.F, y.F) &&
		x.K == y.K && x.Lo == y.Lo && x.Hi == y.Hi
}

func sameProg(x, y impl.Prog) bool { return slices.EqualFunc(x.Items, y.Items, sameItem) }

// sumOfOnes has n ops, for an odd n.
func sumOfOnes(n int) string { return "1" + strings.Repeat("+1", n/2) }

// textOfOps is a text of items that make n ops in all.
func textOfOps(n int) string {
	text := ""
	if n%2 == 0 && n > 0 {
		text, n = "each 1;", n-1
	}
	if n > 0 {
		text += "each " + sumOfOnes(n) + ";"
	}
	return text
}
