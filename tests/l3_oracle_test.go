package tests

import (
	"math/rand"
	"slices"
	"strconv"
	"strings"
	"testing"

	"loop.example/s0023/impl"
)

// typings are the operators of the document's 3.1, each with all that it takes and gives.
var typings = map[string][]string{
	"neg": {"i>i"}, "not": {"b>b"},
	"*": {"ii>i"}, "+": {"ii>i"}, "-": {"ii>i"}, "<": {"ii>b"}, "<=": {"ii>b"}, "=": {"ii>b", "bb>b"},
	"and": {"bb>b"}, "or": {"bb>b"}, "min": {"ii>i"}, "max": {"ii>i"}, "if": {"bii>i", "bbb>b"},
}

func (x exprTree) operator() string {
	switch x.op.Kind {
	case impl.OpNeg:
		return "neg"
	case impl.OpNot:
		return "not"
	case impl.OpBin:
		return binaryWords[x.op.Val]
	}
	return []string{"min", "max", "if"}[x.op.Val]
}

// slowChecker is the document's 3.1 over trees, with the types as letters.
type slowChecker struct {
	lets map[string]string
	at   int64
	err  int64
}

func (c *slowChecker) fail(err int64) string {
	c.err = err
	return ""
}

// typeOf counts the Ops as it is done with them; it stops at the first error, with at on its Op.
func (c *slowChecker) typeOf(x exprTree) string {
	have := ""
	for _, k := range x.kids {
		have += c.typeOf(k)
		if c.err != 0 {
			return ""
		}
	}
	c.at++
	if len(x.kids) == 0 {
		return c.leafType(x.op)
	}
	for _, way := range typings[x.operator()] {
		if takes, gives, _ := strings.Cut(way, ">"); takes == have {
			return gives
		}
	}
	return c.fail(impl.CheckOp)
}

func (c *slowChecker) leafType(op impl.Op) string {
	switch op.Kind {
	case impl.OpNumber:
		return "i"
	case impl.OpAttr:
		if slices.Contains([]string{"pick", "drop"}, attributeWords[op.Val]) {
			return "b"
		}
		return "i"
	case impl.OpName:
		if c.lets[op.Name] == "" {
			return c.fail(impl.CheckName)
		}
		return c.lets[op.Name]
	}
	return "b"
}

func (c *slowChecker) whole(x exprTree, needed int64) string {
	found := c.typeOf(x)
	if c.err == 0 && needed != 0 && found != []string{"", "i", "b"}[needed] {
		return c.fail(impl.CheckWhole)
	}
	return found
}

func slowCheck(rules []ruleTree) impl.CheckRes {
	c := &slowChecker{lets: map[string]string{}}
	var types []int64
	lifo := false
	for i, x := range rules {
		c.at = -1
		kind := x.item.Kind
		found := ""
		switch {
		case kind == impl.ItemLet && c.lets[x.item.Name] != "":
			c.err = impl.CheckTwice
		case kind == impl.ItemLifo && lifo:
			c.err = impl.CheckLifo
		case hasE(kind):
			found = c.whole(x.e, neededTypes[kind])
		}
		if c.err == 0 && kind == impl.ItemNever {
			c.whole(x.f, neededTypes[kind])
		}
		if c.err != 0 {
			return impl.CheckRes{Err: c.err, Item: int64(i), At: c.at}
		}
		lifo = lifo || kind == impl.ItemLifo
		if kind == impl.ItemLet {
			c.lets[x.item.Name] = found
			types = append(types, map[string]int64{"i": 1, "b": 2}[found])
		}
	}
	return impl.CheckRes{Item: -1, At: -1, Types: types}
}

// The templates are the document's 3.3, word by word; a let's own register is r as well.
var stepTemplates = map[int64]string{
	impl.ItemLet:    "gen(E, T); Move r, T",
	impl.ItemEach:   "gen(E, T); Check T, u",
	impl.ItemSum:    "gen(E, T); Add r, r, T; Const T, Lo; Le T, T, r; Check T, u; Const T, Hi; Le T, r, T; Check T, u",
	impl.ItemNever:  "Jz r, L; gen(F, T); Not T, T; Check T, u; L: gen(E, T); Jz T, M; Const r, 1; M",
	impl.ItemApart:  "Sub T, 11, 12; Tag T+1, K; Tag T+2, Lo; Mul T+3, T+1, T; Add r, r, T+3; Mul T+3, T+2, T; Add r+1, r+1, T+3; Mul T+1, T+1, T+2; Mul T+1, T+1, T; Add r+2, r+2, T+1; Mul T+3, r, r+1; Le T+3, T+3, r+2; Check T+3, u",
	impl.ItemLifo:   "Jz 11, L; Const T, 1; Add r, r, T; Save s, r; Const T, K; Le T, r, T; Check T, u; Jump M; L: Load T, s; Eq T, T, r; Check T, u; Const T, 1; Sub r, r, T; M",
	impl.ItemRide:   "gen(E, T); Jz 11, L; Save s, T; Jump M; L: Load T+1, s; Sub T, T, T+1; Const T+1, Lo; Le T+1, T+1, T; Check T+1, u; Const T+1, Hi; Le T+1, T, T+1; Check T+1, u; M",
	impl.ItemStreak: "gen(E, T); Jz T, L; Const T, 1; Add r, r, T; Const T, K; Le T, r, T; Check T, u; Jump M; L: Const r, 0; M",
}

var initTemplates = map[int64]string{
	impl.ItemSum: "Const r, K", impl.ItemNever: "Const r, 0", impl.ItemApart: "Const r, 0; Const r+1, 0; Const r+2, 0",
	impl.ItemLifo: "Const r, 0", impl.ItemStreak: "Const r, 0",
}

var finalTemplates = map[int64]string{impl.ItemLet: "gen(E, T); Move r, T", impl.ItemEnd: "gen(E, T); Check T, u"}

var operatorTemplates = map[string]string{
	"neg": "gen(x, t); Neg t, t", "not": "gen(x, t); Not t, t",
	"*": "gen(x, t); gen(y, t+1); Mul t, t, t+1", "+": "gen(x, t); gen(y, t+1); Add t, t, t+1", "-": "gen(x, t); gen(y, t+1); Sub t, t, t+1",
	"<": "gen(x, t); gen(y, t+1); Lt t, t, t+1", "<=": "gen(x, t); gen(y, t+1); Le t, t, t+1", "=": "gen(x, t); gen(y, t+1); Eq t, t, t+1",
	"min": "gen(x, t); gen(y, t+1); Min t, t, t+1", "max": "gen(x, t); gen(y, t+1); Max t, t, t+1",
	"and": "gen(x, t); Jz t, L; gen(y, t); L", "or": "gen(x, t); Jnz t, L; gen(y, t); L",
	"if": "gen(x, t); Jz t, L; gen(y, t); Jump M; L: gen(z, t); M",
}

var leafTemplates = map[int64]string{
	impl.OpNumber: "Const t, Val", impl.OpName: "Move t, let", impl.OpAttr: "Move t, Val",
	impl.OpHas: "Tag t, Val", impl.OpSkill: "Skill t, Val", impl.OpBool: "Const t, Val",
}

// slowLine is an instruction whose fields are still words, with what the words stand for.
type slowLine struct {
	word   string
	fields []string
	vars   map[string]int64
	labels map[string]int64
}

// slowBlock writes lines by templates; the labels of a template are known to its own lines alone, and asked for at the end.
type slowBlock struct {
	lines []slowLine
	lets  map[string]int64
}

func (b *slowBlock) write(template string, vars map[string]int64, trees map[string]exprTree) {
	labels := map[string]int64{}
	for _, piece := range strings.Split(template, "; ") {
		if piece == "L" || piece == "M" {
			labels[piece] = int64(len(b.lines))
			continue
		}
		if label, rest, ok := strings.Cut(piece, ": "); ok {
			labels[label] = int64(len(b.lines))
			piece = rest
		}
		if inner, ok := strings.CutPrefix(piece, "gen("); ok {
			name, reg, _ := strings.Cut(strings.TrimSuffix(inner, ")"), ", ")
			b.gen(trees[name], valueOf(reg, vars, nil))
			continue
		}
		word, rest, _ := strings.Cut(piece, " ")
		b.lines = append(b.lines, slowLine{word: word, fields: strings.Split(rest, ", "), vars: vars, labels: labels})
	}
}

func (b *slowBlock) gen(x exprTree, t int64) {
	vars := map[string]int64{"t": t, "Val": x.op.Val, "let": b.lets[x.op.Name]}
	if len(x.kids) == 0 {
		b.write(leafTemplates[x.op.Kind], vars, nil)
		return
	}
	trees := map[string]exprTree{}
	for i, k := range x.kids {
		trees["xyz"[i:i+1]] = k
	}
	b.write(operatorTemplates[x.operator()], vars, trees)
}

// valueOf reads a number, a word, or a word and a number behind a "+".
func valueOf(field string, vars map[string]int64, labels map[string]int64) int64 {
	word, more, _ := strings.Cut(field, "+")
	add, _ := strconv.ParseInt(more, 10, 64)
	if n, err := strconv.ParseInt(word, 10, 64); err == nil {
		return n
	}
	if at, ok := labels[word]; ok {
		return at
	}
	base, ok := vars[word]
	if !ok {
		panic("the word " + word + " stands for nothing")
	}
	return base + add
}

func (b *slowBlock) block() []impl.Ins {
	var out []impl.Ins
	for _, line := range b.lines {
		var fields []int64
		for _, f := range line.fields {
			fields = append(fields, valueOf(f, line.vars, line.labels))
		}
		out = append(out, insOf(line.word, fields...))
	}
	return out
}

// insFields tell what A, B and C are: w a register written, r one read, c a constant, t a tag, j a target, u a rule, s a slot, 0 not used.
var insFields = map[string]string{
	"Const": "wc0", "Move": "wr0", "Neg": "wr0", "Not": "wr0", "Mul": "wrr", "Add": "wrr", "Sub": "wrr", "Lt": "wrr", "Le": "wrr", "Eq": "wrr",
	"Min": "wrr", "Max": "wrr", "Tag": "wt0", "Skill": "wt0", "Jz": "rj0", "Jnz": "rj0", "Jump": "0j0", "Check": "ru0", "Save": "sr0", "Load": "ws0",
}

func largestRegister(blocks ...[]impl.Ins) int64 {
	most := int64(-1)
	for _, x := range slices.Concat(blocks...) {
		for i, n := range []int64{x.A, x.B, x.C} {
			if use := insFields[insWords[x.Op-1]][i]; use == 'w' || use == 'r' {
				most = max(most, n)
			}
		}
	}
	return most
}

// slowCompile is the document's 3.3 for rules that are sound.
func slowCompile(rules []ruleTree) impl.Code {
	own := make([]map[string]int64, len(rules))
	lets := map[string]int64{}
	next, slots := int64(13), int64(0)
	for i, x := range rules {
		own[i] = map[string]int64{"u": int64(i) + 1, "K": x.item.K, "Lo": x.item.Lo, "Hi": x.item.Hi}
		if x.item.Kind == impl.ItemLet {
			own[i]["r"], lets[x.item.Name] = next, next
			next++
		}
	}
	for i, x := range rules {
		switch x.item.Kind {
		case impl.ItemSum, impl.ItemNever, impl.ItemLifo, impl.ItemStreak:
			own[i]["r"] = next
			next++
		case impl.ItemApart:
			own[i]["r"] = next
			next += 3
		}
		if x.item.Kind == impl.ItemLifo || x.item.Kind == impl.ItemRide {
			own[i]["s"] = slots
			slots++
		}
	}
	block := func(templates map[int64]string) []impl.Ins {
		b := slowBlock{lets: lets}
		for i, x := range rules {
			own[i]["T"] = next
			if template := templates[x.item.Kind]; template != "" {
				b.write(template, own[i], map[string]exprTree{"E": x.e, "F": x.f})
			}
		}
		return b.block()
	}
	c := impl.Code{Slots: slots, Init: block(initTemplates), Step: block(stepTemplates), Final: block(finalTemplates)}
	c.Regs = max(next, largestRegister(c.Init, c.Step, c.Final)+1)
	return c
}

func sameCheck(x, y impl.CheckRes) bool {
	return x.Err == y.Err && x.Item == y.Item && x.At == y.At && slices.Equal(x.Types, y.Types)
}

func TestCheckAgainstTheSlowChecker(t *testing.T) {
	r := rand.New(rand.NewSource(31))
	seen := map[int64]int{}
	for i := range 6000 {
		rules := randomTyped(r, r.Intn(7), 12, []float64{0, 0.01, 0.05, 0.2}[i%4])
		p := progOf(rules...)
		if !impl.ValidProg(p) {
			t.Fatalf("%q is not valid", canonicalText(rules))
		}
		want := slowCheck(rules)
		if got := impl.Check(p); !sameCheck(got, want) {
			t.Errorf("%q: %+v, not %+v", canonicalText(rules), got, want)
		}
		if i%4 == 0 && want.Err != 0 {
			t.Errorf("%q has the error %d", canonicalText(rules), want.Err)
		}
		seen[want.Err]++
	}
	for _, err := range []int64{0, impl.CheckName, impl.CheckOp, impl.CheckWhole, impl.CheckTwice, impl.CheckLifo} {
		if seen[err] < 20 {
			t.Errorf("error %d came up %d times alone", err, seen[err])
		}
	}
}

func TestCompileAgainstTheSlowCompiler(t *testing.T) {
	r := rand.New(rand.NewSource(32))
	for i := range 2000 {
		rules := randomTyped(r, r.Intn(12), []int{2, 8, 40}[i%3], 0)
		p := progOf(rules...)
		kept := copyProg(p)
		got, want := impl.Compile(p), slowCompile(rules)
		if !sameCode(got, want) {
			t.Fatalf("%s\n%d %d\n%s\nnot %d %d\n%s", canonicalText(rules), got.Regs, got.Slots, listing(got.Step), want.Regs, want.Slots, listing(want.Step))
		}
		if !impl.ValidCode(got) {
			t.Errorf("%s has code that is not valid", canonicalText(rules))
		}
		if back := impl.DecodeCode(impl.EncodeCode(got)); !sameCode(back, got) {
			t.Errorf("%s: the code does not come back from its bytes", canonicalText(rules))
		}
		if !sameProg(p, kept) {
			t.Errorf("%s is written into", canonicalText(rules))
		}
	}
}

func TestCompileRefusesWhatCheckRefuses(t *testing.T) {
	r := rand.New(rand.NewSource(33))
	for range 3000 {
		rules := randomTyped(r, 1+r.Intn(6), 10, 0.1)
		got := impl.Compile(progOf(rules...))
		if err := slowCheck(rules).Err; (err == 0) != (got.Regs >= 13) || err != 0 && !sameCode(got, impl.Code{}) {
			t.Errorf("%q: error %d, code %+v", canonicalText(rules), err, got)
		}
	}
}
