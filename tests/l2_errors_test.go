package tests

import (
	"slices"
	"strings"
	"testing"

	"loop.example/s0023/impl"
)

func lookAtSyntax(t *testing.T, text string, err, at int64) {
	t.Helper()
	given := []byte(text)
	got := impl.ParseProg(given)
	if string(given) != text {
		t.Errorf("%.80q: ParseProg wrote into its argument", text)
	}
	if got.Err != err || got.At != at {
		t.Errorf("%.80q .. %q: error %d at %d, not %d at %d", text, text[max(0, len(text)-30):], got.Err, got.At, err, at)
	}
	if got.Err != 0 && len(got.Prog.Items) != 0 {
		t.Errorf("%.80q: an error comes with a program", text)
	}
	if got.Err == 0 && !impl.ValidProg(got.Prog) {
		t.Errorf("%.80q: a program without an error is not valid", text)
	}
}

// lookAtMark takes a text in which an '@' stands before the token in error; without one the text is right.
func lookAtMark(t *testing.T, marked string, err int64) {
	t.Helper()
	before, after, found := strings.Cut(marked, "@")
	if found == (err == 0) {
		t.Fatalf("the mark in %.80q does not go with error %d", marked, err)
	}
	at := int64(0)
	if found {
		at = int64(len(before))
	}
	lookAtSyntax(t, before+after, err, at)
}

type markedRow struct {
	text string
	err  int64
}

func lookAtRows(t *testing.T, rows []markedRow) {
	t.Helper()
	for _, r := range rows {
		lookAtMark(t, r.text, r.err)
	}
}

func TestSyntaxBytes(t *testing.T) {
	lookAtRows(t, []markedRow{
		{"each@\tpick;", impl.SynByte}, {"each pick;@\r\n", impl.SynByte}, {"@A", impl.SynByte}, {"let x@Y = 1;", impl.SynByte},
		{"let @_x = 1;", impl.SynByte}, {"each 1 @> 2;", impl.SynByte}, {"each 1 @/ 2;", impl.SynByte}, {"each @\"a\";", impl.SynByte},
		{"@\x00", impl.SynByte}, {"each pick;@\x80", impl.SynByte}, {"let @é = 1;", impl.SynByte}, {"each 1@:2;", impl.SynByte},
		{"each 1@A;", impl.SynByte}, {"each 1 @! 2;", impl.SynByte}, {"@\v", impl.SynByte}, {"@{", impl.SynByte}, {"@`", impl.SynByte},
		{"@\xef\xbb\xbfeach pick;", impl.SynByte},
		{"each pick; # \t A \x80", 0},
	})
	for c := range 256 {
		if strings.IndexByte(" \n#;,()+-*=<abcdefghijklmnopqrstuvwxyz0123456789", byte(c)) < 0 {
			lookAtSyntax(t, "each "+string([]byte{byte(c)})+"pick;", impl.SynByte, 5)
		}
	}
}

func TestSyntaxDots(t *testing.T) {
	lookAtRows(t, []markedRow{
		{"ride time in 1..2;", 0}, {"ride time in 1 ..2;", 0}, {"ride time in 1.. 2;", 0}, {"ride time in -1..-2;", 0},
		{"ride time in 1 @. 2;", impl.SynByte}, {"ride time in 1 @. . 2;", impl.SynByte}, {"ride time in 1..@.2;", impl.SynByte},
		{"ride time in 1..@..2;", impl.SynToken}, {"ride time in 1..@....2;", impl.SynToken}, {"ride time in 1@.", impl.SynByte},
		{"ride time in @..2;", impl.SynToken}, {"@...", impl.SynToken}, {"@.", impl.SynByte}, {"each 1@..2;", impl.SynToken},
		{"each @.5 < 1;", impl.SynByte}, {"ride time in 1@,2;", impl.SynToken},
	})
}

func TestSyntaxSigns(t *testing.T) {
	lookAtRows(t, []markedRow{
		{"each 1<2;", 0}, {"each 1<=2;", 0}, {"each 1=2;", 0}, {"each 1< @=2;", impl.SynToken}, {"each 1<=@=2;", impl.SynToken},
		{"each 1=@<2;", impl.SynToken}, {"each 1<@<2;", impl.SynToken}, {"each 1=@=2;", impl.SynToken}, {"each 1<\n@= 2;", impl.SynToken},
		{"each 1<-2;", 0}, {"each 1=-2;", 0}, {"each 1 <@", impl.SynToken}, {"each 1 <=@", impl.SynToken},
		{"let x @<= 1;", impl.SynToken}, {"let x@<1;", impl.SynToken}, {"let x =@= 1;", impl.SynToken},
		{"each 1 @(2);", impl.SynToken}, {"each (1)@(2);", impl.SynToken}, {"each (@);", impl.SynToken},
		{"each 1 +@+ 2;", impl.SynToken}, {"each @+ 2;", impl.SynToken}, {"each @* 2;", impl.SynToken}, {"each 1 *@* 2;", impl.SynToken},
		{"each 1 - - 2 = -3;", 0}, {"each 1 * - 2 = 3;", 0}, {"each 1 * not 2;", 0}, {"each @and pick;", impl.SynToken},
		{"each pick and @or drop;", impl.SynToken}, {"each pick or @and drop;", impl.SynToken}, {"each pick @not drop;", impl.SynToken},
	})
}

func TestSyntaxNumbers(t *testing.T) {
	lookAtRows(t, []markedRow{
		{"lifo 0;", 0}, {"lifo 999999999;", 0}, {"lifo 100000000;", 0}, {"lifo @1000000000;", impl.SynForm}, {"lifo @0000000000;", impl.SynForm},
		{"lifo @05;", impl.SynForm}, {"lifo @00;", impl.SynForm}, {"lifo @12ab;", impl.SynForm}, {"lifo @1_;", impl.SynForm}, {"lifo @0x;", impl.SynForm},
		{"lifo @1e5;", impl.SynForm}, {"lifo @0_0;", impl.SynForm}, {"lifo @123456789a;", impl.SynForm}, {"lifo 10;", 0},
		{"each 999999999 < 0;", 0}, {"each 1 < @9999999999;", impl.SynForm}, {"each @007 = 7;", impl.SynForm}, {"let @1a = 1;", impl.SynForm},
		{"lifo @;", impl.SynToken}, {"lifo 1 @2;", impl.SynToken}, {"lifo @a;", impl.SynToken}, {"lifo @(1);", impl.SynToken}, {"lifo 1@+1;", impl.SynToken},
		{"sum 1 from @05 in 0 .. 1;", impl.SynForm}, {"sum 1 from -@05 in 0 .. 1;", impl.SynForm}, {"@5;", impl.SynToken}, {"@05;", impl.SynForm},
	})
}

func TestSyntaxSignedNumbers(t *testing.T) {
	text := "sum 1 from -0 in -999999999 .. - 5;ride 1 in -7..-0;sum 1 from 3 in 2..1;sum leg-1 from-1 in-2..-3;"
	got := impl.ParseProg([]byte(text))
	want := [][3]int64{{0, -999999999, -5}, {0, -7, 0}, {3, 2, 1}, {-1, -2, -3}}
	if got.Err != 0 || len(got.Prog.Items) != len(want) {
		t.Fatalf("%q: error %d at %d", text, got.Err, got.At)
	}
	for i, it := range got.Prog.Items {
		if it.K != want[i][0] || it.Lo != want[i][1] || it.Hi != want[i][2] {
			t.Errorf("item %d is %+v", i, it)
		}
	}
	lookAtRows(t, []markedRow{
		{"sum 1 from -@-1 in 0 .. 1;", impl.SynToken}, {"sum 1 from @+1 in 0 .. 1;", impl.SynToken}, {"sum 1 from @(1) in 0 .. 1;", impl.SynToken},
		{"sum 1 from -@(1) in 0 .. 1;", impl.SynToken}, {"sum 1 from 1@+1 in 0 .. 1;", impl.SynToken}, {"sum 1 from @a in 0 .. 1;", impl.SynToken},
		{"sum 1 from -@a in 0 .. 1;", impl.SynToken}, {"ride 1 in -@..1;", impl.SynToken}, {"ride 1 in 1..-@;", impl.SynToken},
		{"ride 1 in 1..@not 1;", impl.SynToken}, {"lifo @-1;", impl.SynToken}, {"lifo @-0;", impl.SynToken}, {"streak pick most @-1;", impl.SynToken},
		{"ride 1 @from 1 in 1..2;", impl.SynToken}, {"sum 1 @in 1..2;", impl.SynToken}, {"sum 1 from 2 @from 3;", impl.SynToken},
		{"sum 1 from 2 in 3 @;", impl.SynToken}, {"sum 1 from 2 in 3..4@..5;", impl.SynToken},
	})
}

func TestSyntaxWords(t *testing.T) {
	w16, w17 := strings.Repeat("a", 16), strings.Repeat("a", 17)
	lookAtRows(t, []markedRow{
		{"let " + w16 + " = " + w16 + ";", 0}, {"let @" + w17 + " = 1;", impl.SynForm}, {"each @" + w17 + ";", impl.SynForm},
		{"@" + w17, impl.SynForm}, {"@" + w16, impl.SynToken}, {"let x = 1 @" + w17, impl.SynForm}, {"let x = 1 @" + w16, impl.SynToken},
		{"let a_9_z01234567899 = 1;", 0}, {"let @a_9_z012345678999 = 1;", impl.SynForm}, {"let @" + strings.Repeat("a", 300) + " = 1;", impl.SynForm},
		{"each has @" + w17 + ";", impl.SynForm}, {"each has @" + w16 + ";", impl.SynToken}, {"@each" + w17 + " pick;", impl.SynForm},
		{"let lets = 1;", 0}, {"let le = 1;", 0}, {"let let_ = 1;", 0}, {"let let0 = 1;", 0}, {"let q = 1;", 0}, {"let z_ = 1;", 0},
		{"@leteach pick;", impl.SynToken}, {"@eachpick;", impl.SynToken}, {"let a @b = 1;", impl.SynToken}, {"let @= 1;", impl.SynToken},
		{"let @1 = 1;", impl.SynToken}, {"let @(a) = 1;", impl.SynToken}, {"let a @1;", impl.SynToken}, {"let a = @;", impl.SynToken},
	})
}

func TestSyntaxReservedWords(t *testing.T) {
	items := strings.Fields("let each end sum never apart lifo ride streak")
	operands := append(strings.Fields("not min max if has skill true false"), attributeWords...)
	for _, w := range reservedWords {
		lookAtMark(t, "let @"+w+" = 1;", impl.SynToken)
		lookAtMark(t, "each has @"+w+";", impl.SynToken)
		lookAtMark(t, "each skill @"+w+";", impl.SynToken)
		lookAtMark(t, "apart @"+w+" b;", impl.SynToken)
		lookAtMark(t, "apart b @"+w+";", impl.SynToken)
		lookAtMark(t, "lifo @"+w+";", impl.SynToken)
		if !slices.Contains(items, w) {
			lookAtMark(t, "@"+w, impl.SynToken)
		}
		if !slices.Contains(operands, w) {
			lookAtMark(t, "each @"+w+";", impl.SynToken)
		}
		if w != "and" && w != "or" {
			lookAtMark(t, "each 1 @"+w+" 1;", impl.SynToken)
		}
	}
	for _, w := range items {
		lookAtMark(t, w+"@", impl.SynToken)
		lookAtMark(t, "lifo 1; "+w+" @;", impl.SynToken)
	}
	for _, w := range append([]string{"true", "false", "x", "7", "has a", "skill p"}, attributeWords...) {
		lookAtMark(t, "each "+w+";", 0)
		lookAtMark(t, "each "+w+"@(1);", impl.SynToken)
	}
}

func TestSyntaxLetters(t *testing.T) {
	for c := 'a'; c <= 'z'; c++ {
		w := string(c)
		lookAtMark(t, "let "+w+" = "+w+" + "+w+";", 0)
		err, mark := int64(0), ""
		if c > 'p' {
			err, mark = impl.SynToken, "@"
		}
		lookAtMark(t, "each has "+mark+w+";", err)
		lookAtMark(t, "each skill "+mark+w+";", err)
		lookAtMark(t, "apart "+mark+w+" b;", err)
		lookAtMark(t, "apart b "+mark+w+";", err)
	}
	got := impl.ParseProg([]byte("apart p a; each has p; each skill b;"))
	want := impl.Prog{Items: []impl.Item{{Kind: impl.ItemApart, K: 15},
		{Kind: impl.ItemEach, E: []impl.Op{{Kind: impl.OpHas, Val: 15}}}, {Kind: impl.ItemEach, E: []impl.Op{{Kind: impl.OpSkill, Val: 1}}}}}
	if got.Err != 0 || !sameProg(got.Prog, want) {
		t.Errorf("the tags are read as %+v", got)
	}
	lookAtRows(t, []markedRow{
		{"apart @ab;", impl.SynToken}, {"apart a@;", impl.SynToken}, {"apart a b @c;", impl.SynToken}, {"apart a@, b;", impl.SynToken},
		{"each has @(a);", impl.SynToken}, {"each has @1;", impl.SynToken}, {"each has @aa;", impl.SynToken}, {"each has@;", impl.SynToken},
		{"each has a @b;", impl.SynToken}, {"apart @1 2;", impl.SynToken}, {"each has @a0;", impl.SynToken}, {"each has @not a;", impl.SynToken},
	})
}

func TestSyntaxSecondComparison(t *testing.T) {
	for _, first := range []string{"<", "<=", "="} {
		for _, second := range []string{"<", "<=", "="} {
			lookAtMark(t, "each a "+first+" b @"+second+" c;", impl.SynToken)
			lookAtMark(t, "let x = a "+first+" b + 1 @"+second+" c;", impl.SynToken)
			lookAtMark(t, "each (a "+first+" b) "+second+" c;", 0)
			lookAtMark(t, "each a "+first+" (b "+second+" c);", 0)
			lookAtMark(t, "each (a "+first+" b @"+second+" c);", impl.SynToken)
			lookAtMark(t, "each min(a "+first+" b, c "+second+" d);", 0)
			lookAtMark(t, "each min(a "+first+" b, c "+first+" d @"+second+" e);", impl.SynToken)
			lookAtMark(t, "each a "+first+" b and c "+second+" d or e "+first+" f;", 0)
			lookAtMark(t, "each not a "+first+" b @"+second+" c;", impl.SynToken)
		}
	}
}

func TestSyntaxEndOfText(t *testing.T) {
	lookAtRows(t, []markedRow{
		{"each pick@", impl.SynToken}, {"each pick \n @", impl.SynToken}, {"each pick # no more;@", impl.SynToken}, {"each pick # no more;\n@", impl.SynToken},
		{"each pick #@", impl.SynToken}, {"each@", impl.SynToken}, {"each (pick@", impl.SynToken}, {"let@", impl.SynToken}, {"let x@", impl.SynToken},
		{"let x = 1 +@", impl.SynToken}, {"sum@", impl.SynToken}, {"apart a@", impl.SynToken}, {"lifo 1@", impl.SynToken}, {"lifo #1;\n@", impl.SynToken},
		{"each min(1,@", impl.SynToken}, {"each -@", impl.SynToken}, {"each not@", impl.SynToken}, {"lifo 1;each pick; end@", impl.SynToken},
		{"", 0}, {" ", 0}, {"\n", 0}, {"#", 0}, {"##", 0}, {"# each\n# pick", 0}, {" \n\n # x\n\n ", 0}, {"lifo 1;#", 0}, {"#\nlifo 1;", 0},
		{"# a\n@pick", impl.SynToken}, {"each#;\npick#\n;#;", 0}, {"each pick;@;", impl.SynToken}, {"@;", impl.SynToken}, {"each pi#\n@ck;", impl.SynToken},
	})
	for _, text := range []string{"", " ", "\n", "#", "# no newline", " # a\n\n#b\n"} {
		if got := impl.ParseProg([]byte(text)); got.Err != 0 || got.At != 0 || len(got.Prog.Items) != 0 {
			t.Errorf("%q: %+v", text, got)
		}
	}
	if got := impl.ParseProg(nil); got.Err != 0 || got.At != 0 || len(got.Prog.Items) != 0 {
		t.Errorf("the nil text: %+v", got)
	}
}

func TestSyntaxFirstTokenDecides(t *testing.T) {
	lookAtRows(t, []markedRow{
		{"let x = 1 @1 A", impl.SynToken}, {"@pick A", impl.SynToken}, {"@) 05", impl.SynToken}, {"each 1 @) A;", impl.SynToken},
		{"each 1 @A )", impl.SynByte}, {"each pick;@; \x80", impl.SynToken}, {"let @each 12ab", impl.SynToken}, {"each 1 < 2 @<A", impl.SynToken},
		{"each @;A", impl.SynToken}, {"each 1 @1A", impl.SynToken}, {"each 1 @12a", impl.SynForm}, {"each 1 @.", impl.SynByte},
		{"each 1 @2 3d", impl.SynToken}, {"each min(1@) A", impl.SynToken}, {"each min @1 A", impl.SynToken}, {"each min(1, 2@, A", impl.SynToken},
		{"each if(1, 2@) A", impl.SynToken}, {"each if(1, 2, 3@, 4);", impl.SynToken}, {"each if(@, 2, 3);", impl.SynToken}, {"each max(@);", impl.SynToken},
		{"never pick @;", impl.SynToken}, {"never pick then @;", impl.SynToken}, {"never @then pick;", impl.SynToken}, {"streak pick @;", impl.SynToken},
		{"each pick @then drop;", impl.SynToken}, {"each pick @most 1;", impl.SynToken}, {"each 1 @, 2;", impl.SynToken}, {"each (1 @, 2);", impl.SynToken},
		{"each if @pick;", impl.SynToken}, {"each pick@);", impl.SynToken}, {"each (pick)@);", impl.SynToken}, {"each ((pick)@;", impl.SynToken},
	})
}
