package tests

import (
	"math/rand"
	"regexp"
	"strconv"
	"strings"
	"testing"

	"loop.example/s0023/impl"
)

var (
	numberForm = regexp.MustCompile(`^(0|-?[1-9][0-9]{0,8})$`)
	tagsForm   = regexp.MustCompile(`^(-|[a-p]+)$`)
)

// reference reads an instance the slow way: a list of rules for each line, asked in the document's order.
type reference struct {
	in   impl.Inst
	rank int
}

var referenceWords = []string{"vehicle", "request", "road"}
var referenceFields = []int{8, 13, 4}

func referenceForm(fields []string, rank int) bool {
	for i, f := range fields[1:] {
		if rank < 2 && i == 1 {
			if !tagsForm.MatchString(f) || !ascending(f) {
				return false
			}
		} else if !numberForm.MatchString(f) {
			return false
		}
	}
	return true
}

func ascending(s string) bool {
	for i := 1; i < len(s); i++ {
		if s[i-1] >= s[i] {
			return false
		}
	}
	return true
}

func referenceNumbers(fields []string) []int64 {
	var out []int64
	for _, f := range fields {
		n, _ := strconv.ParseInt(f, 10, 64)
		out = append(out, n)
	}
	return out
}

func referenceTags(f string) int64 {
	set := int64(0)
	for t := range 16 {
		if strings.ContainsRune(f, rune('a'+t)) {
			set += 1 << t
		}
	}
	return set
}

func referencePlace(n []int64) impl.Place {
	return impl.Place{X: n[0], Y: n[1], Open: n[2], Close: n[3], Hold: n[4]}
}

// take adds the line to the instance without asking whether it may.
func (r *reference) take(fields []string, rank int) impl.Inst {
	in := copyInst(r.in)
	n := referenceNumbers(fields)
	switch rank {
	case 0:
		in.Vehicles = append(in.Vehicles, impl.Vehicle{Room: n[1], Skills: referenceTags(fields[2]), Home: referencePlace(n[3:])})
	case 1:
		in.Requests = append(in.Requests, impl.Request{Size: n[1], Tags: referenceTags(fields[2]), From: referencePlace(n[3:]), To: referencePlace(n[8:])})
	case 2:
		in.Roads = append(in.Roads, impl.Road{A: n[1], B: n[2], Time: n[3]})
	}
	return in
}

// alone is the instance with no more of the line's kind than this line, so that only its own bounds can break.
func alone(in impl.Inst, rank int) impl.Inst {
	switch rank {
	case 0:
		in.Vehicles = in.Vehicles[len(in.Vehicles)-1:]
	case 1:
		in.Requests = in.Requests[len(in.Requests)-1:]
	case 2:
		in.Roads = in.Roads[len(in.Roads)-1:]
	}
	return in
}

func (r *reference) line(line string) int64 {
	if !strings.HasSuffix(line, "\n") {
		return impl.InstNoNewline
	}
	fields := strings.Split(strings.TrimSuffix(line, "\n"), " ")
	rank := -1
	for i, w := range referenceWords {
		if fields[0] == w {
			rank = i
		}
	}
	if rank < 0 {
		return impl.InstWord
	}
	if rank < r.rank {
		return impl.InstOrder
	}
	if len(fields) != referenceFields[rank] {
		return impl.InstFields
	}
	if !referenceForm(fields, rank) {
		return impl.InstForm
	}
	in := r.take(fields, rank)
	if !impl.ValidInst(alone(in, rank)) {
		return impl.InstRange
	}
	if k := len(in.Roads); k > 1 && rank == 2 {
		x, y := in.Roads[k-2], in.Roads[k-1]
		if x.A*10000+x.B >= y.A*10000+y.B {
			return impl.InstRoadOrder
		}
	}
	r.in, r.rank = in, rank
	return 0
}

// referenceParse stays below the greatest counts, so it never needs InstTooMany or InstTooLong.
func referenceParse(text string) impl.InstRes {
	var r reference
	for i, line := range strings.SplitAfter(text, "\n") {
		if line == "" {
			break
		}
		if err := r.line(line); err != 0 {
			return impl.InstRes{Err: err, Line: int64(i + 1)}
		}
	}
	return impl.InstRes{Inst: r.in}
}

// spoil changes a text a little, so that most of it stays right.
func spoil(r *rand.Rand, text string) string {
	pieces := []string{" ", "  ", "\n", "\n\n", "0", "-", "1", "00", "-0", "+", "a", "p", "q", "ba", "9999999", "vehicle", "request", "road", "road 0 1 2\n", "vehicle 1 a 0 0 0 9 0\n", "x", "\x00", "\xff", "\r"}
	for range r.Intn(3) {
		at := r.Intn(len(text) + 1)
		end := min(len(text), at+r.Intn(3))
		switch r.Intn(4) {
		case 0:
			text = text[:at] + text[end:]
		case 1:
			text = text[:at] + pieces[r.Intn(len(pieces))] + text[at:]
		case 2:
			text = text[:at] + pieces[r.Intn(len(pieces))] + text[end:]
		case 3:
			lines := strings.SplitAfter(text, "\n")
			i, j := r.Intn(len(lines)), r.Intn(len(lines))
			lines[i], lines[j] = lines[j], lines[i]
			text = strings.Join(lines, "")
		}
	}
	return text
}

func TestParseAgainstTheReference(t *testing.T) {
	r := rand.New(rand.NewSource(4))
	seen := map[int64]int{}
	for range 40000 {
		text := spoil(r, string(impl.PrintInst(randomInst(r))))
		got, want := impl.ParseInst([]byte(text)), referenceParse(text)
		if got.Err != want.Err || got.Line != want.Line || !sameInst(got.Inst, want.Inst) {
			t.Fatalf("%q: %+v, not %+v", text, got, want)
		}
		if got.Err == 0 && string(impl.PrintInst(got.Inst)) != text {
			t.Fatalf("%q is read, but is not the print of what it is read as", text)
		}
		seen[got.Err]++
	}
	for err := int64(impl.InstNoNewline); err <= impl.InstRoadOrder; err++ {
		if seen[err] < 50 {
			t.Errorf("error %d came up %d times only", err, seen[err])
		}
	}
	if seen[0] < 1000 {
		t.Errorf("only %d texts without an error", seen[0])
	}
}
