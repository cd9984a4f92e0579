package tests

import (
	"math/rand"
	"regexp"
	"slices"
	"strings"
	"testing"

	"loop.example/s0023/impl"
)

// referenceGrammar is the document's 2.2; the repetitions are written as rules that begin with themselves.
const referenceGrammar = `
program =
program = program item
item = let NAME = expr ;
item = each expr ;
item = end expr ;
item = sum expr from int in int .. int ;
item = never expr then expr ;
item = apart TAG TAG ;
item = lifo NUMBER ;
item = ride expr in int .. int ;
item = streak expr most NUMBER ;
int = NUMBER
int = - NUMBER
expr = conj
expr = expr or conj
conj = comp
conj = conj and comp
comp = total
comp = total < total
comp = total <= total
comp = total = total
total = factor
total = total + factor
total = total - factor
factor = unary
factor = factor * unary
unary = - unary
unary = not unary
unary = primary
primary = NUMBER
primary = NAME
primary = true
primary = false
primary = has TAG
primary = skill TAG
primary = ATTRIBUTE
primary = ( expr )
primary = min ( expr , expr )
primary = max ( expr , expr )
primary = if ( expr , expr , expr )
`

type grammarRule struct {
	head string
	body []string
}

func grammarRules() []grammarRule {
	var rules []grammarRule
	for _, line := range strings.Split(strings.TrimSpace(referenceGrammar), "\n") {
		words := strings.Fields(line)
		rules = append(rules, grammarRule{words[0], words[2:]})
	}
	return rules
}

// partial is a rule of which the first words are read, from the token it began at.
type partial struct{ rule, dot, from int }

// earley keeps, for each number of tokens read, all partials that go with them. It knows nothing but the grammar.
type earley struct {
	rules []grammarRule
	sets  [][]partial
}

func newEarley() *earley {
	e := &earley{rules: grammarRules()}
	var first []partial
	for i, r := range e.rules {
		if r.head == "program" {
			first = append(first, partial{i, 0, 0})
		}
	}
	e.close(first)
	return e
}

// close adds a set and all that follows from it without a further token.
func (e *earley) close(set []partial) {
	at := len(e.sets)
	seen := map[partial]bool{}
	var out []partial
	push := func(p partial) {
		if !seen[p] {
			seen[p] = true
			out = append(out, p)
		}
	}
	for _, p := range set {
		push(p)
	}
	e.sets = append(e.sets, nil)
	for i := 0; i < len(out); i++ {
		p := out[i]
		r := e.rules[p.rule]
		if p.dot < len(r.body) {
			for j, next := range e.rules {
				if next.head == r.body[p.dot] {
					push(partial{j, 0, at})
				}
			}
			continue
		}
		back := e.sets[p.from]
		if p.from == at {
			back = slices.Clone(out)
		}
		for _, q := range back {
			if body := e.rules[q.rule].body; q.dot < len(body) && body[q.dot] == r.head {
				push(partial{q.rule, q.dot + 1, q.from})
			}
		}
	}
	e.sets[at] = out
}

// read takes a token that may be of several classes; it is false when no text of the grammar goes on with it.
func (e *earley) read(classes []string) bool {
	var next []partial
	for _, p := range e.sets[len(e.sets)-1] {
		if body := e.rules[p.rule].body; p.dot < len(body) && slices.Contains(classes, body[p.dot]) {
			next = append(next, partial{p.rule, p.dot + 1, p.from})
		}
	}
	e.close(next)
	return len(next) > 0
}

func (e *earley) whole() bool {
	for _, p := range e.sets[len(e.sets)-1] {
		r := e.rules[p.rule]
		if r.head == "program" && p.from == 0 && p.dot == len(r.body) {
			return true
		}
	}
	return false
}

var (
	skipForm   = regexp.MustCompile(`^([ \n]|#[^\n]*)*`)
	wordForm   = regexp.MustCompile(`^[a-z][a-z0-9_]*`)
	digitForm  = regexp.MustCompile(`^[0-9][a-z0-9_]*`)
	symbolForm = regexp.MustCompile(`^(<=|\.\.|[-;,()+*=<])`)
	plainForm  = regexp.MustCompile(`^(0|[1-9][0-9]{0,8})$`)
)

// classesOf is what a word, a number or a symbol may stand for; none if it is not one.
func classesOf(word string) []string {
	switch {
	case slices.Contains(attributeWords, word):
		return []string{"ATTRIBUTE"}
	case slices.Contains(reservedWords, word) || symbolForm.MatchString(word):
		return []string{word}
	case plainForm.MatchString(word):
		return []string{"NUMBER"}
	case len(word) > 16 || digitForm.MatchString(word):
		return nil
	case len(word) == 1 && word[0] <= 'p':
		return []string{"NAME", "TAG"}
	}
	return []string{"NAME"}
}

// counter follows the tokens of a text that the grammar takes, and counts items, ops and what is open.
type counter struct {
	items, ops int
	inExpr     bool
	before     string
	open       []string
}

func (c *counter) completes() {
	for len(c.open) > 0 && c.open[len(c.open)-1] != "(" {
		c.open = c.open[:len(c.open)-1]
	}
}

func (c *counter) operandEnds() bool {
	return c.before == ")" || classesOf(c.before) != nil && !slices.Contains(reservedWords, c.before) && !symbolForm.MatchString(c.before) ||
		slices.Contains(attributeWords, c.before) || c.before == "true" || c.before == "false"
}

func (c *counter) isOp(word string) bool {
	if !c.inExpr || c.before == "has" || c.before == "skill" {
		return false
	}
	return !slices.Contains([]string{"(", ")", ",", ";", "from", "in", "then", "most"}, word)
}

// count takes in a word and tells the limit that it breaks, or 0.
func (c *counter) count(word string) int64 {
	isItem := slices.Contains(strings.Fields("let each end sum never apart lifo ride streak"), word)
	isOp := c.isOp(word)
	opens := c.inExpr && (word == "(" || word == "not" || word == "-" && !c.operandEnds())
	switch {
	case isItem && c.items == 100:
		return impl.SynItems
	case isOp && c.ops == 2000:
		return impl.SynOps
	case opens && len(c.open) == 64:
		return impl.SynDepth
	}
	if isItem {
		c.items++
	}
	if isOp {
		c.ops++
	}
	if opens {
		c.open = append(c.open, word)
	}
	if word == ")" {
		c.completes()
		c.open = c.open[:len(c.open)-1]
	}
	c.follow(word)
	return 0
}

func (c *counter) follow(word string) {
	wasExpr := c.inExpr
	switch word {
	case "each", "end", "sum", "never", "ride", "streak", "then":
		c.inExpr = true
	case "=":
		c.inExpr = true
	case ";", "from", "in", "most":
		c.inExpr = false
	}
	c.before = word
	if wasExpr && c.inExpr && c.operandEnds() {
		c.completes()
	}
	if !c.inExpr {
		c.open = nil
	}
}

// referenceSyntax is the document's 2.7, token by token.
func referenceSyntax(text string) (err, at int64) {
	if len(text) > 65536 {
		return impl.SynTooLong, 0
	}
	e, c := newEarley(), &counter{}
	for at := 0; ; {
		at += len(skipForm.FindString(text[at:]))
		if at == len(text) {
			if !e.whole() {
				return impl.SynToken, int64(at)
			}
			return 0, 0
		}
		word := wordForm.FindString(text[at:]) + digitForm.FindString(text[at:]) + symbolForm.FindString(text[at:])
		if word == "" {
			return impl.SynByte, int64(at)
		}
		classes := classesOf(word)
		if classes == nil {
			return impl.SynForm, int64(at)
		}
		if !e.read(classes) {
			return impl.SynToken, int64(at)
		}
		if limit := c.count(word); limit != 0 {
			return limit, int64(at)
		}
		at += len(word)
	}
}

func lookAtReference(t *testing.T, text string) int64 {
	t.Helper()
	err, at := referenceSyntax(text)
	lookAtSyntax(t, text, err, at)
	return err
}

var soupWords = append(append([]string{}, reservedWords...), strings.Split("; ; ; , ( ( ) ) + - - * = < <= .. 0 1 27 a b x p q zz 999999999 1234567890 05 9z . A # \n _ abcdefghijklmnop abcdefghijklmnopq", " ")...)

// spoilTokens changes the text at one or a few tokens.
func spoilTokens(r *rand.Rand, text string) string {
	words := regexp.MustCompile(`[a-z0-9_]+|<=|\.\.|\n|[^ ]`).FindAllString(text, -1)
	for range 1 + r.Intn(3) {
		if len(words) == 0 {
			return soupWords[r.Intn(len(soupWords))]
		}
		i := r.Intn(len(words))
		other := soupWords[r.Intn(len(soupWords))]
		switch r.Intn(5) {
		case 0:
			words = slices.Delete(words, i, i+1)
		case 1:
			words[i] = other
		case 2:
			words = slices.Insert(words, i, other)
		case 3:
			words[i], words[0] = words[0], words[i]
		case 4:
			words = words[:i]
		}
	}
	return strings.Join(words, []string{" ", "  ", "\n"}[r.Intn(3)])
}

func TestSyntaxAgainstReference(t *testing.T) {
	r := rand.New(rand.NewSource(5))
	seen := map[int64]int{}
	for range 3000 {
		text := canonicalText(randomRules(r))
		seen[lookAtReference(t, text)]++
		seen[lookAtReference(t, spoilTokens(r, text))]++
		cut := r.Intn(len(text) + 1)
		seen[lookAtReference(t, text[:cut]+string([]byte{byte(r.Intn(256))})+text[cut:])]++
	}
	for _, err := range []int64{0, impl.SynByte, impl.SynForm, impl.SynToken} {
		if seen[err] < 100 {
			t.Errorf("error %d was met only %d times", err, seen[err])
		}
	}
}

func TestSyntaxSoupAgainstReference(t *testing.T) {
	r := rand.New(rand.NewSource(6))
	for range 3000 {
		text := ""
		for range r.Intn(12) {
			text += soupWords[r.Intn(len(soupWords))] + strings.Repeat(" ", r.Intn(2))
		}
		lookAtReference(t, text)
		lookAtReference(t, "each "+text)
	}
}

// nearLimits is a text that the grammar takes, and that comes near one or more of the limits or steps over them.
func nearLimits(r *rand.Rand) string {
	text := strings.Repeat("lifo 7;", []int{2, 50, 97}[r.Intn(3)]) + textOfOps([]int{1, 1500, 1900}[r.Intn(3)])
	for range 1 + r.Intn(3) {
		text += "each "
		open := 0
		for range r.Intn(4) {
			for range r.Intn(50) {
				word := []string{"(", "-", "not ", "min(1,"}[r.Intn(4)]
				open += strings.Count(word, "(")
				text += word
			}
			shut := r.Intn(open + 1)
			open -= shut
			text += "x" + strings.Repeat(")", shut) + []string{"+", "-", "*", " and "}[r.Intn(4)]
		}
		text += "1" + strings.Repeat(")", open) + ";"
	}
	return text
}

func TestSyntaxLimitsAgainstReference(t *testing.T) {
	r := rand.New(rand.NewSource(7))
	seen := map[int64]int{}
	for range 300 {
		seen[lookAtReference(t, nearLimits(r))]++
	}
	for _, err := range []int64{0, impl.SynDepth, impl.SynOps, impl.SynItems} {
		if seen[err] < 5 {
			t.Errorf("error %d was met only %d times", err, seen[err])
		}
	}
}
