package show_test

import (
	"strings"
	"testing"

	"foregone/api"
	"foregone/show"
)

// P4.2: the chapter's examples, and what they leave open.
func TestText(t *testing.T) {
	for _, x := range [][2]string{
		{"((a+b))*c", "(a + b) * c"}, {"a-(b-c)", "a - (b - c)"}, {"(a-b)-c", "a - b - c"}, {`(a/\b)\/(~c)`, `(a /\ b) \/ ~c`},
		{"(IF a THEN b ELSE c)+d", "(IF a THEN b ELSE c) + d"}, {"d+(IF a THEN b ELSE c)", "d + IF a THEN b ELSE c"}, {"a*(~b)+c", "a * (~b) + c"},
		{"f [ x ] . a '", "f[x].a'"}, {"(f')[x]", "f'[x]"}, {`{(x \in S):x\in T}`, `{(x \in S) : x \in T}`}, {"Fold(+,LAMBDA x:x)", "Fold(+, LAMBDA x : x)"}, {"Op( + )", "Op(+ )"},
		{"[][(A)]_(<<x>>)", "[][A]_<<x>>"}, {"WF_v((A))", "WF_v(A)"},
		{"/\\ a\n/\\ (\\/ b\n    \\/ c)", "/\\ a\n/\\ \\/ b\n   \\/ c"},
		{`(A \X B) \X C`, `(A \X B) \X C`}, {`A \X (B \X C)`, `A \X (B \X C)`}, {`A \X B \X C`, `A \X B \X C`},
		{"(a=b)=c", "(a = b) = c"}, {"(-x)'", "(-x)'"}, {"-(x')", "-x'"}, {"ENABLED (x')", "ENABLED (x')"}, {"[](x')", "[](x')"}, {"SUBSET (S)", "SUBSET S"}, {"~(~a)", "~~a"}, {"<>([]a)", "<>[]a"},
		{`\A x \in (a=b) : (\E y \in T : y)`, `\A x \in a = b : \E y \in T : y`}, {`(\A x \in S : x)/\y`, `(\A x \in S : x) /\ y`}, {`y/\(\A x \in S : x)`, `y /\ \A x \in S : x`},
		{`{x \in (a=b) : p}`, `{x \in (a = b) : p}`}, {`{x \in (A \cup B) : p}`, `{x \in A \cup B : p}`}, {`{<<x,y>>\in(z'):p}`, `{<<x, y>> \in z' : p}`}, {`{x \in (\A y \in S : z) : p}`, `{x \in \A y \in S : z : p}`},
		{`{(<<x>> \in S) : y \in T}`, `{(<<x>> \in S) : y \in T}`}, {`{(<<1>> \in S) : y \in T}`, `{<<1>> \in S : y \in T}`}, {`{(<<>> \in S) : y \in T}`, `{<<>> \in S : y \in T}`}, {`{(x \notin S) : x \in T}`, `{x \notin S : x \in T}`}, {`{(x.a \in S) : x \in T}`, `{x.a \in S : x \in T}`}, {`{(x \in S)}`, `{x \in S}`},
		{"CASE a -> (CASE b -> c) [] d -> e", "CASE a -> (CASE b -> c) [] d -> e"}, {"CASE a -> (CASE b -> c [] OTHER -> d) [] e -> f", "CASE a -> CASE b -> c [] OTHER -> d [] e -> f"}, {"CASE a -> b [] c -> (CASE d -> e)", "CASE a -> b [] c -> CASE d -> e"},
		{`CASE a -> (\A x \in S : (CASE b -> c)) [] OTHER -> d`, `CASE a -> \A x \in S : (CASE b -> c) [] OTHER -> d`}, {"CASE (CASE a -> b) -> c", "CASE CASE a -> b -> c"}, {"CASE a -> (IF b THEN c ELSE (CASE d -> e)) [] f -> g", "CASE a -> IF b THEN c ELSE (CASE d -> e) [] f -> g"},
		{"[(M!v(1))' ]_(M!v(1))", "[M!v(1)']_(M!v(1))"}, {"[A]_(M!v)", "[A]_M!v"}, {"<<A>>_(x')", "<<A>>_(x')"}, {"WF_(x')(A)", "WF_(x')(A)"}, {"SF_(1)(A)", "SF_(1)(A)"}, {"WF_<<x,y>>(A)", "WF_<<x, y>>(A)"}, {"[A]_(v[1])", "[A]_(v[1])"}, {"([A]_v)[1]", "[A]_v[1]"}, {"([A]_v)'", "[A]_v'"},
		{`LET f(x,g(_,_))==(x) h[y\in S]==(y) a(+)b==c IN (f(1,+))+2`, `LET f(x, g(_, _)) == x h[y \in S] == y a (+) b == c IN f(1, +) + 2`},
		{`[f EXCEPT ![(1),2].a[x]=(v),!.b=@]`, `[f EXCEPT ![1, 2].a[x] = v, !.b = @]`}, {"[a|->(1),b|->(x)]", "[a |-> 1, b |-> x]"}, {"[a:(S),b:T]", "[a : S, b : T]"}, {"[(S)->(T)]", "[S -> T]"}, {`[x,y\in(S),<<z>>\in T|->(e)]`, `[x, y \in S, <<z>> \in T |-> e]`},
		{`CHOOSE x\in S:(p)`, `CHOOSE x \in S : p`}, {`{(e):x\in S}`, `{e : x \in S}`}, {"{ }", "{}"}, {"<< >>", "<<>>"}, {"{(a),b}", "{a, b}"}, {"TRUE", "TRUE"}, {`"a\\\""`, `"a\\\""`}, {`\hFF`, "255"}, {`a \equiv b`, "a <=> b"}, {"1 .a", "1.a"},
	} {
		if got := textOf(t, tree(t, x[0])); got != x[1] {
			t.Errorf("Text of %q: %q, want %q", x[0], got, x[1])
		}
	}
}

// P4.2: blanks that are there only because the tokens would be read otherwise.
func TestNeededBlanks(t *testing.T) {
	for _, x := range [][2]string{
		{"- (-a)", "- -a"}, {"-(-(-(-a)))", "- - - -a"}, {"F( *,x)", "F( *, x)"}, {"F(a, *)", "F(a, *)"}, {"F( **, x)", "F( **, x)"}, {"F(- )", "F(- )"}, {"F(.., -)", "F(.., -)"}, {"F(a, (+))", "F(a, (+))"}, {"F(\\)", "F(\\)"}, {"F(\\, *)", "F(\\, *)"}, {"F((+))", "F((+))"},
		{"<<(<<a>>)>>_v", "<<<<a>>>>_v"}, {"[(f[x])]_v", "[f[x]]_v"}, {"<< -1>>", "<<-1>>"}, {"{-1}", "{-1}"}, {"<< <>a >>", "<<<>a>>"}, {"~<>a", "~<>a"}, {"[] <>a", "[]<>a"}, {"[][A]_v", "[][A]_v"}, {"<>(<<A>>_v)", "<><<A>>_v"}, {"WF__c(A)", "WF__c(A)"}, {"[A]_ _c", "[A]__c"}, {"<<A>>_ _c", "<<A>>__c"}, {"x.1d", "x.1d"}, {"1 . _2e", "1._2e"}, {"F( \\o )", "F(\\o)"}, {"F(a)!G(\\in)", "F(a)!G(\\in)"},
	} {
		if got := textOf(t, tree(t, x[0])); got != x[1] {
			t.Errorf("Text of %q: %q, want %q", x[0], got, x[1])
		}
	}
}

// P4.2, P4.8: the lines of bulleted lists.
func TestLists(t *testing.T) {
	for _, x := range [][2]string{
		{`/\ a`, `/\ a`},
		{"/\\ (a)\n/\\ (b /\\ c)\n/\\ (d)", "/\\ a\n/\\ b /\\ c\n/\\ d"},
		{"(/\\ a\n /\\ b) + c", "(/\\ a\n /\\ b) + c"},
		{"c+(/\\ a\n   /\\ b)", "c + /\\ a\n    /\\ b"},
		{"/\\ a\n/\\ b + /\\ c\n       /\\ d\n/\\ e", "/\\ a\n/\\ b + /\\ c\n       /\\ d\n/\\ e"},
		{"\\/ /\\ a\n   /\\ b\n\\/ /\\ c\n   /\\ d", "\\/ /\\ a\n   /\\ b\n\\/ /\\ c\n   /\\ d"},
		{"F(\\/ a\n  \\/ b, \\/ c\n        \\/ d)", "F(\\/ a\n  \\/ b, \\/ c\n        \\/ d)"},
		{"(/\\ a\n /\\ b)=(\\/ c\n        \\/ d)", "(/\\ a\n /\\ b) = \\/ c\n         \\/ d"},
		{"IF (/\\ a\n    /\\ b) THEN c ELSE (/\\ d\n                       /\\ e)", "IF /\\ a\n   /\\ b THEN c ELSE /\\ d\n                    /\\ e"},
		{"/\\ /\\ a\n   /\\ b\n/\\ /\\ c", "/\\ /\\ a\n   /\\ b\n/\\ /\\ c"},
		{"<<(/\\ a\n   /\\ b)'>>", "<<(/\\ a\n   /\\ b)'>>"},
	} {
		if got := textOf(t, tree(t, x[0])); got != x[1] {
			t.Errorf("Text of %q: %q, want %q", x[0], got, x[1])
		}
	}
}

// P4.2, P4.11: modules.
func TestModules(t *testing.T) {
	for _, x := range [][2]string{
		{"---- MODULE M ---- ====", "---- MODULE M ----\n====\n"},
		{"------ MODULE M ------ EXTENDS A,B ====", "---- MODULE M ----\nEXTENDS A, B\n====\n"},
		{head + "CONSTANT a,F(_,_) ---- VARIABLE x\\in(S),y RECURSIVE G(_) AXIOM (a) ASSUMPTION B==(b) THEOREM (c) THEOREM C==(d) ====", "---- MODULE M ----\nCONSTANTS a, F(_, _)\nVARIABLES x \\in S, y\nRECURSIVE G(_)\nASSUME a\nASSUME B == b\nTHEOREM c\nTHEOREM C == d\n====\n"},
		{head + "A==(x) LOCAL f[x\\in S]==(x) LOCAL a(+)b==(a) B(x,F(_))==(F(x)) INSTANCE K LOCAL INSTANCE L WITH a<-(b),(+)<- -,c<-LAMBDA x:(x) I(z)==INSTANCE N WITH --<-+ ====", "---- MODULE M ----\nA == x\nLOCAL f[x \\in S] == x\nLOCAL a (+) b == a\nB(x, F(_)) == F(x)\nINSTANCE K\nLOCAL INSTANCE L WITH a <- b, (+) <- -, c <- LAMBDA x : x\nI(z) == INSTANCE N WITH -- <- +\n====\n"},
		{head + "A == /\\ x\n     /\\ y B == (/\\ x) + y ====", "---- MODULE M ----\nA == /\\ x\n     /\\ y\nB == (/\\ x) + y\n====\n"},
		{head + "INSTANCE K WITH a <- -(x), b <- /\\ (x), c <- -(1), d <- -(x[1]), e <- -({x}), f <- x - y ====", "---- MODULE M ----\nINSTANCE K WITH a <- -(x), b <- /\\ (x), c <- -1, d <- -(x)[1], e <- -{x}, f <- x - y\n====\n"},
	} {
		if got := textOf(t, tree(t, x[0])); got != x[1] {
			t.Errorf("Text of %q:\n%s\nwant\n%s", x[0], got, x[1])
		}
	}
}

// P4.2
func TestFullAndWith(t *testing.T) {
	n := tree(t, "a * (~b) + c")
	if s, e := show.Full(n); s != "((a) * (~(b))) + (c)" || e != api.OK {
		t.Errorf("Full: %q, %d", s, e)
	}
	for s, par := range map[string]string{"a * ~b + c": "00000", "(a * ~b) + c": "10000", "a * ~(b) + c": "00010", "(a) * (~b) + (c)": "01101"} {
		var l []bool
		for _, c := range par {
			l = append(l, c == '1')
		}
		if got := withOf(t, n, l); got != s {
			t.Errorf("With %s: %q, want %q", par, got, s)
		}
	}
	n = tree(t, `{(x \in S) : x \in T}`)
	if got := withOf(t, n, all(4, false)); got != `{(x \in S) : x \in T}` {
		t.Errorf("forced: %q", got)
	}
	if got, _ := show.Full(n); got != `{((x) \in (S)) : x \in (T)}` {
		t.Errorf("forced, full: %q", got)
	}
	for _, text := range []string{"[A]_(x')", "<<A>>_(M!N(1))", "WF_(1)(A)", "[A]_(\"s\")", "SF_({})(A)"} {
		n := tree(t, text)
		if got := withOf(t, n, all(len(placesOf(t, n)), false)); got != text {
			t.Errorf("forced: %q, want %q", got, text)
		}
	}
	if got := neededOf(t, tree(t, "[A]_(x')")); len(got) != 3 || got[0] || !got[1] || got[2] {
		t.Errorf("Needed of a forced place: %v", got)
	}
}

// P4.8
func TestNoLineEndsWithABlank(t *testing.T) {
	for seed := range uint64(300) {
		m := newMaker(seed)
		n := m.any(5)
		text := textOf(t, n)
		if strings.Contains(text, " \n") || strings.HasSuffix(text, " ") {
			t.Fatalf("seed %d:\n%s", seed, text)
		}
		m.lists = false
		n = m.expr(5)
		if text := textOf(t, n); strings.Contains(text, "\n") {
			t.Fatalf("seed %d: an expression without lists:\n%s", seed, text)
		}
	}
}
