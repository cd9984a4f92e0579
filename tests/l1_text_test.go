package tests

import (
	"math/rand"
	"strings"
	"testing"

	"loop.example/s0023/impl"
)

const (
	vehicleLine = "vehicle 10 - 0 0 0 100 0\n"
	requestLine = "request 4 - 3 4 5 60 2 -6 8 0 90 1\n"
)

func lookAtError(t *testing.T, name, text string, err, line int64) {
	t.Helper()
	got := impl.ParseInst([]byte(text))
	if got.Err != err || got.Line != line {
		t.Errorf("%.200q: error %d at line %d, not %d at %d", name, got.Err, got.Line, err, line)
	}
	if got.Err != 0 && !emptyInst(got.Inst) {
		t.Errorf("%.200q: an error comes with an instance", name)
	}
	if got.Err == 0 && !impl.ValidInst(got.Inst) {
		t.Errorf("%.200q: an instance without an error is not valid", name)
	}
}

func lookAtRoundTrip(t *testing.T, in impl.Inst) {
	t.Helper()
	kept := copyInst(in)
	text := impl.PrintInst(in)
	if !sameInst(in, kept) {
		t.Errorf("PrintInst wrote into its argument")
	}
	if len(text) >= impl.InstTextMax {
		t.Errorf("a print of %d bytes", len(text))
	}
	before := string(text)
	got := impl.ParseInst(text)
	if string(text) != before {
		t.Errorf("ParseInst wrote into its argument")
	}
	clear(text)
	if got.Err != 0 || got.Line != 0 || !sameInst(got.Inst, in) {
		t.Errorf("error %d at line %d, or another instance, from\n%.300s", got.Err, got.Line, before)
	}
}

func TestTextWrittenOut(t *testing.T) {
	if got := string(impl.PrintInst(smallInst())); got != smallText {
		t.Errorf("the print is %q", got)
	}
	got := impl.ParseInst([]byte(smallText))
	if got.Err != 0 || got.Line != 0 || !sameInst(got.Inst, smallInst()) {
		t.Errorf("the parse is %+v", got)
	}
}

func TestTextOfTheEmptyInstance(t *testing.T) {
	if got := impl.PrintInst(impl.Inst{}); len(got) != 0 {
		t.Errorf("the print of the empty instance is %q", got)
	}
	for _, text := range [][]byte{nil, {}} {
		if got := impl.ParseInst(text); got.Err != 0 || got.Line != 0 || !emptyInst(got.Inst) {
			t.Errorf("the empty text is %+v", got)
		}
	}
}

func TestTextAndBack(t *testing.T) {
	small := smallInst()
	lookAtRoundTrip(t, impl.Inst{})
	lookAtRoundTrip(t, impl.Inst{Vehicles: small.Vehicles})
	lookAtRoundTrip(t, impl.Inst{Requests: small.Requests})
	lookAtRoundTrip(t, impl.Inst{Requests: small.Requests, Roads: []impl.Road{{A: 3, B: 0, Time: 9}}})
	lookAtRoundTrip(t, small)
	lookAtRoundTrip(t, fullInst())
	r := rand.New(rand.NewSource(3))
	for range 2000 {
		lookAtRoundTrip(t, randomInst(r))
	}
	for tags := range int64(65536) {
		in := impl.Inst{Requests: []impl.Request{{Tags: tags}}}
		if got := impl.ParseInst(impl.PrintInst(in)); got.Err != 0 || !sameInst(got.Inst, in) {
			t.Fatalf("the tag set %d is lost", tags)
		}
	}
}

func TestParseAnswersNewMemory(t *testing.T) {
	text := []byte(smallText)
	first, second := impl.ParseInst(text), impl.ParseInst(text)
	first.Inst.Vehicles[0].Room++
	first.Inst.Requests[0].Size++
	first.Inst.Roads[0].Time++
	if !sameInst(second.Inst, smallInst()) {
		t.Error("two answers share memory")
	}
}

func TestParseEachError(t *testing.T) {
	v, q := vehicleLine, requestLine
	rows := []struct {
		text string
		err  int64
		line int64
	}{
		{"vehicle 10 - 0 0 0 100 0", impl.InstNoNewline, 1},
		{v + q + "road 0 1 5", impl.InstNoNewline, 3},
		{v + "x", impl.InstNoNewline, 2},
		{v + " ", impl.InstNoNewline, 2},

		{"\n", impl.InstWord, 1},
		{v + "\n", impl.InstWord, 2},
		{v + "\n" + q, impl.InstWord, 2},
		{" " + v, impl.InstWord, 1},
		{" \n", impl.InstWord, 1},
		{"Vehicle 10 - 0 0 0 100 0\n", impl.InstWord, 1},
		{"vehicles 10 - 0 0 0 100 0\n", impl.InstWord, 1},
		{"vehicl 10 - 0 0 0 100 0\n", impl.InstWord, 1},
		{"vehicle\t10 - 0 0 0 100 0\n", impl.InstWord, 1},
		{v + q + "Road 0 1 5\n", impl.InstWord, 3},
		{v + "\r\n", impl.InstWord, 2},
		{"\xff\x00\n", impl.InstWord, 1},

		{v + q + v, impl.InstOrder, 3},
		{v + q + "road 0 1 5\n" + q, impl.InstOrder, 4},
		{v + q + "road 0 1 5\n" + v, impl.InstOrder, 4},

		{"vehicle\n", impl.InstFields, 1},
		{"vehicle 10 - 0 0 0 100\n", impl.InstFields, 1},
		{"vehicle 10 - 0 0 0 100 0 0\n", impl.InstFields, 1},
		{"vehicle  10 - 0 0 0 100 0\n", impl.InstFields, 1},
		{"vehicle 10 - 0 0 0 100 0 \n", impl.InstFields, 1},
		{v + "request 4 - 3 4 5 60 2 -6 8 0 90\n", impl.InstFields, 2},
		{v + "request 4 - 3 4 5 60 2 -6 8 0 90 1 \n", impl.InstFields, 2},
		{v + "request 4 - 3 4 5 60 2  -6 8 0 90 1\n", impl.InstFields, 2},
		{v + q + "road 0 1\n", impl.InstFields, 3},
		{v + q + "road 0 1 5 \n", impl.InstFields, 3},
		{v + q + "road 0  1 5\n", impl.InstFields, 3},

		{"vehicle 1x - 0 0 0 100 0\n", impl.InstForm, 1},
		{"vehicle 10 - 0 0 0 100 0\r\n", impl.InstForm, 1},
		{v + "request 4 - 3 4 5 60 2 -6 8 0 90 -\n", impl.InstForm, 2},
		{v + q + "road 0 1 five\n", impl.InstForm, 3},

		{"vehicle -1 - 0 0 0 100 0\n", impl.InstRange, 1},
		{"vehicle 10 - 0 0 101 100 0\n", impl.InstRange, 1},
		{v + "request 10001 - 3 4 5 60 2 -6 8 0 90 1\n", impl.InstRange, 2},
		{v + "request 4 - 3 4 5 60 2 -6 8 91 90 1\n", impl.InstRange, 2},
		{v + q + "road 0 3 5\n", impl.InstRange, 3},
		{v + q + "road 3 0 5\n", impl.InstRange, 3},
		{v + q + "road 2 2 5\n", impl.InstRange, 3},
		{v + q + "road 0 1 100001\n", impl.InstRange, 3},
		{v + q + "road 0 1 -1\n", impl.InstRange, 3},
		{"road 0 1 5\n", impl.InstRange, 1},
		{v + "road 0 1 5\n", impl.InstRange, 2},

		{v + q + "road 0 1 5\nroad 0 1 5\n", impl.InstRoadOrder, 4},
		{v + q + "road 0 1 5\nroad 0 1 6\n", impl.InstRoadOrder, 4},
		{v + q + "road 0 2 5\nroad 0 1 6\n", impl.InstRoadOrder, 4},
		{v + q + "road 1 0 5\nroad 0 2 6\n", impl.InstRoadOrder, 4},
		{v + q + "road 0 1 5\nroad 1 2 5\nroad 1 0 5\n", impl.InstRoadOrder, 5},

		{v + q + "road 0 1 100000\nroad 0 2 0\nroad 1 0 7\n", 0, 0},
		{q, 0, 0},
		{q + "road 1 0 5\n", 0, 0},
	}
	for _, r := range rows {
		lookAtError(t, r.text, r.text, r.err, r.line)
	}
}

// Each text breaks two or more rules at once; the first in the document's order is the answer.
func TestParseFirstErrorOfALine(t *testing.T) {
	v, q := vehicleLine, requestLine
	vehicles := strings.Repeat(v, impl.VehMax)
	requests := strings.Repeat(q, impl.ReqMax)
	full := string(impl.PrintInst(fullInst()))
	rows := []struct {
		name, text string
		err, line  int64
	}{
		{"no newline, unknown word", v + "bus 1", impl.InstNoNewline, 2},
		{"no newline, out of order", v + q + "vehicle 10 - 0 0 0 100 0", impl.InstNoNewline, 3},
		{"no newline, fields", "vehicle 10", impl.InstNoNewline, 1},
		{"no newline, form", "vehicle 01 - 0 0 0 100 0", impl.InstNoNewline, 1},
		{"unknown word, fields", "bus\n", impl.InstWord, 1},
		{"unknown word, form", "bus 01 ? x\n", impl.InstWord, 1},
		{"order, fields", v + q + "vehicle 1\n", impl.InstOrder, 3},
		{"order, form", v + q + "vehicle x - 0 0 0 100 0\n", impl.InstOrder, 3},
		{"order, range", v + q + "vehicle -1 - 0 0 0 100 0\n", impl.InstOrder, 3},
		{"order, too many", vehicles + q + v, impl.InstOrder, impl.VehMax + 2},
		{"fields, form", "vehicle x - 0 0 0 100\n", impl.InstFields, 1},
		{"fields, range", "vehicle -1 - 0 0 0 100 0 0\n", impl.InstFields, 1},
		{"fields, too many", vehicles + "vehicle 1\n", impl.InstFields, impl.VehMax + 1},
		{"range in front of form", "vehicle -1 - 0 0 0 100 00\n", impl.InstForm, 1},
		{"range in front of the tags", "vehicle -1 ba 0 0 0 100 0\n", impl.InstForm, 1},
		{"range in front of form in a request", "request 4 - 3 4 61 60 2 -6 8 0 90 +1\n", impl.InstForm, 1},
		{"range in front of form in a road", v + q + "road 7 7 -0\n", impl.InstForm, 3},
		{"form, too many", vehicles + "vehicle 1 - 0 0 0 100 x\n", impl.InstForm, impl.VehMax + 1},
		{"range, too many vehicles", vehicles + "vehicle -1 - 0 0 0 100 0\n", impl.InstRange, impl.VehMax + 1},
		{"range, too many requests", requests + "request -1 - 3 4 5 60 2 -6 8 0 90 1\n", impl.InstRange, impl.ReqMax + 1},
		{"range, road order", v + q + "road 1 2 5\nroad 0 3 5\n", impl.InstRange, 4},
		{"one node, road order", v + q + "road 1 2 5\nroad 1 1 5\n", impl.InstRange, 4},
		{"range, too many roads", full + "road 0 1 100001\n", impl.InstRange, impl.VehMax + impl.ReqMax + impl.RoadMax + 1},
		{"road order, too many roads", full + "road 0 1 5\n", impl.InstRoadOrder, impl.VehMax + impl.ReqMax + impl.RoadMax + 1},
	}
	for _, r := range rows {
		lookAtError(t, r.name, r.text, r.err, r.line)
	}
}

func TestParseFirstLineWithAnError(t *testing.T) {
	v, q := vehicleLine, requestLine
	rows := []struct {
		text      string
		err, line int64
	}{
		{"vehicle -1 - 0 0 0 100 0\nvehicle", impl.InstRange, 1},
		{v + "vehicle x - 0 0 0 100 0\n\n" + q, impl.InstForm, 2},
		{v + q + v + "bus\n", impl.InstOrder, 3},
		{v + q + "road 0 1 5\nroad 0 1 5\n" + q + "road", impl.InstRoadOrder, 4},
		{"road 0 1 5\n" + v + q, impl.InstRange, 1},
		{v + "bus\n" + strings.Repeat(v, impl.VehMax), impl.InstWord, 2},
	}
	for _, r := range rows {
		lookAtError(t, r.text, r.text, r.err, r.line)
	}
}

func TestParseNumbers(t *testing.T) {
	wrong := []string{"", "-", "+3", "-0", "+0", "00", "007", "-07", "--1", "1-", "0x1", "1_0", "1.", "1e3", "1234567890", "0000000001", "-1234567890", "99999999999999999999", "\t1", "1\r", "1\x00", "\xb2"}
	for _, w := range wrong {
		for _, form := range []string{"vehicle N - 0 0 0 9 0", "vehicle 1 - N 0 0 9 0", "vehicle 1 - 0 N 0 9 0", "vehicle 1 - 0 0 N 9 0", "vehicle 1 - 0 0 0 N 0", "vehicle 1 - 0 0 0 9 N",
			"request N - 0 0 0 9 0 0 0 0 9 0", "request 1 - N 0 0 9 0 0 0 0 9 0", "request 1 - 0 0 0 9 0 0 0 0 9 N", "road N 1 1", "road 0 N 1", "road 0 1 N"} {
			text := strings.Replace(form, "N", w, 1) + "\n"
			lookAtError(t, text, text, impl.InstForm, 1)
		}
	}
	for _, w := range []string{"999999999", "123456789", "-999999999", "-100000000", "10001", "-10001"} {
		text := "vehicle 1 - " + w + " 0 0 9 0\n"
		lookAtError(t, text, text, impl.InstRange, 1)
	}
	for w, n := range map[string]int64{"0": 0, "9": 9, "-9": -9, "10": 10, "-10000": -10000, "10000": 10000} {
		got := impl.ParseInst([]byte("vehicle 1 - " + w + " 0 0 9 0\n"))
		if got.Err != 0 || got.Inst.Vehicles[0].Home.X != n {
			t.Errorf("the number %s is read as %+v", w, got)
		}
	}
}

func TestParseTags(t *testing.T) {
	for _, w := range []string{"", "q", "aq", "A", "ba", "aa", "aba", "a-", "-a", "--", "0", "5", "`", "abcdefghijklmnopq", "ponmlkjihgfedcba", "\xe1", "a\r"} {
		for _, text := range []string{"vehicle 1 " + w + " 0 0 0 9 0\n", "request 1 " + w + " 0 0 0 9 0 0 0 0 9 0\n"} {
			lookAtError(t, text, text, impl.InstForm, 1)
		}
	}
	for w, n := range map[string]int64{"-": 0, "a": 1, "p": 1 << 15, "ap": 1<<15 | 1, "bc": 6, "acegikmo": 0x5555, "abcdefghijklmnop": 65535} {
		got := impl.ParseInst([]byte("vehicle 1 " + w + " 0 0 0 9 0\nrequest 1 " + w + " 0 0 0 9 0 0 0 0 9 0\n"))
		if got.Err != 0 || got.Inst.Vehicles[0].Skills != n || got.Inst.Requests[0].Tags != n {
			t.Errorf("the tags %s are read as %+v", w, got)
		}
	}
}

func TestParseCounts(t *testing.T) {
	vehicles := strings.Repeat(vehicleLine, impl.VehMax)
	lookAtError(t, "all vehicles", vehicles, 0, 0)
	lookAtError(t, "a vehicle too many", vehicles+vehicleLine, impl.InstTooMany, impl.VehMax+1)
	requests := strings.Repeat(requestLine, impl.ReqMax)
	lookAtError(t, "all requests", requests, 0, 0)
	lookAtError(t, "a request too many", vehicles+requests+requestLine, impl.InstTooMany, impl.VehMax+impl.ReqMax+1)
	full := string(impl.PrintInst(fullInst()))
	lookAtError(t, "all roads", full, 0, 0)
	lookAtError(t, "a road too many", full+"road 2063 2062 5\n", impl.InstTooMany, impl.VehMax+impl.ReqMax+impl.RoadMax+1)
}

func TestParseLength(t *testing.T) {
	const most = impl.InstTextMax
	full := string(impl.PrintInst(fullInst()))
	tail := func(n int) string { return full + strings.Repeat(" ", n-len(full)-1) + "\n" }
	rows := []struct {
		name, text string
		err, line  int64
	}{
		{"exactly, one line", strings.Repeat("x", most), impl.InstNoNewline, 1},
		{"exactly, empty lines", strings.Repeat("\n", most), impl.InstWord, 1},
		{"exactly, an error at the end", tail(most), impl.InstWord, impl.VehMax + impl.ReqMax + impl.RoadMax + 1},
		{"exactly, too many vehicles", strings.Repeat(vehicleLine, most/len(vehicleLine)), impl.InstTooMany, impl.VehMax + 1},
		{"a byte more, one line", strings.Repeat("x", most+1), impl.InstTooLong, 0},
		{"a byte more, empty lines", strings.Repeat("\n", most+1), impl.InstTooLong, 0},
		{"a byte more, an error at the end", tail(most + 1), impl.InstTooLong, 0},
		{"far more", strings.Repeat("vehicle", most), impl.InstTooLong, 0},
	}
	for _, r := range rows {
		lookAtError(t, r.name, r.text, r.err, r.line)
	}
}
