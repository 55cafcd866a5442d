package parse_test

import (
	"slices"
	"strings"
	"testing"

	"foregone/api"
	"foregone/parse"
)

// P3.1

func TestExamples(t *testing.T) {
	for text, want := range map[string]string{
		"a + b * c - d": "+(a, -(*(b, c), d))", "~a = b": "pre ~(=(a, b))", "-x'": "pre -(prime(x))",
		`A \X B \X C`: "product(A, B, C)", `(A \X B) \X C`: "product(product(A, B), C)",
		"/\\ a\n/\\ b\n   /\\ c": `list /\(a, /\(b, c))`, "/\\ a\n/\\ \\/ b\n   \\/ c": `list /\(a, list \/(b, c))`,
		`[x \in S |-> x]`: "fun(bind(x, S), x)", `[x \in S]_v`: `square(\in(x, S), v)`, "[S -> T]": "funset(S, T)", "[a |-> 1]": "record(field a([1]))", "[a : S]": "recset(field a(S))",
		`{x \in S : P}`: "filter(bind(x, S), P)", `{x : x \in S}`: "map(x, bind(x, S))", `{(x \in S) : x \in T}`: `map(\in(x, S), bind(x, T))`,
		"f[x].a'": "prime(dot a(index(f, x)))", "M!N(1)!Op": "qual(M, call N([1]), Op)", "Fold(+, LAMBDA x : x)": "call Fold(sign +, lambda(decl x, x))",
		"CASE a -> b [] OTHER -> c": "case(arm(a, b), arm#1(c))",
	} {
		expectExpr(t, text, want)
	}
	expectError(t, `a /\ b \/ c`, 7, api.ErrPrec)
	expectError(t, "a = b = c", 6, api.ErrPrec)
	expectError(t, "[]x'", 3, api.ErrPrec)
	expectError(t, "a b", 2, api.ErrParse)
	expectError(t, "(a", 2, api.ErrParse)
}

func TestLeaves(t *testing.T) {
	for text, want := range map[string]string{
		"a": "a", "1a": "1a", "_x": "_x", "0": "[]", "007": "[7]", "1000000001": "[1 1]", `\hFF`: "[255]", `"a\n"`: `"a\n"`, `""`: `""`,
		"TRUE": "TRUE", "FALSE": "FALSE", "BOOLEAN": "BOOLEAN", "STRING": "STRING", "@": "@", "(a)": "a", "((a))": "a", "(1)": "[1]",
	} {
		expectExpr(t, text, want)
	}
	n := tree(t, " 1000000001")
	if want := (api.Node{Kind: api.NdNumber, I: api.Int{D: []int{1, 1}}, At: 1, End: 11}); !equal(n, want) {
		t.Errorf("%v", n)
	}
}

func TestCalls(t *testing.T) {
	for text, want := range map[string]string{
		"f(a)": "call f(a)", "f(a, b, f(c))": "call f(a, b, call f(c))", "f(a + b)": "call f(+(a, b))", "f((a))": "call f(a)",
		"f( - )": "call f(sign -)", "f(- )": "call f(sign -)", "f(-, -a)": "call f(sign -, pre -(a))", "f(- , + )": "call f(sign -, sign +)", `f(/\, \/)`: `call f(sign /\, sign \/)`, `f(/\ a)`: `call f(list /\(a))`, `f(\in, =>)`: `call f(sign \in, sign =>)`, `f(\cdot)`: `call f(sign \cdot)`, "f((-a))": "call f(pre -(a))",
		"f(LAMBDA x, y : x + y, z)": "call f(lambda(decl x, decl y, +(x, y)), z)", "f(LAMBDA x : LET y == x IN y)": "call f(lambda(decl x, let(def y(x), y)))",
		"M!N": "qual(M, N)", "M!N!O": "qual(M, N, O)", "M(1)!N(2, +)": "qual(call M([1]), call N([2], sign +))", "M!N[1]": "index(qual(M, N), [1])", "M!N'": "prime(qual(M, N))", "a + M!N * b": "+(a, *(qual(M, N), b))",
		"f(a)[b]": "index(call f(a), b)", "f(a).b": "dot b(call f(a))",
	} {
		expectExpr(t, text, want)
	}
	for _, x := range []struct {
		text string
		at   int
	}{
		{"f(", 2}, {"f()", 2}, {"f(a", 3}, {"f(a,)", 4}, {"f(,a)", 2}, {"f(a b)", 4}, {"f(+ a)", 2}, {"f(+", 2}, {`f(\X, a)`, 2}, {`f(\X )`, 2}, {"f(+ +)", 2}, {"f(- -)", 5}, {"f(')", 2}, {"f(~)", 3}, {"f([])", 4},
		{"f(LAMBDA : x)", 9}, {"f(LAMBDA x)", 10}, {"f(LAMBDA x y : x)", 11}, {"f(LAMBDA x, : x)", 12}, {"f(LAMBDA x(_) : x)", 10}, {"LAMBDA x : x", 0}, {"(LAMBDA x : x)", 1}, {"f((LAMBDA x : x))", 3}, {"f[LAMBDA x : x]", 2}, {"f(a, LAMBDA x : )", 16},
		{"M!", 2}, {"M!1", 2}, {"M!!N", 2}, {"M!(N)", 2}, {"1!N", 1}, {"(M)!N", 3}, {"M!N()", 4}, {`M!N!\in`, 4},
	} {
		expectError(t, x.text, x.at, api.ErrParse)
		compareExpr(t, x.text)
	}
}

func TestBehindPrimaries(t *testing.T) {
	for text, want := range map[string]string{
		"f[x]": "index(f, x)", "f[x, y]": "index(f, x, y)", "f[x][y]": "index(index(f, x), y)", "f[x[y]]": "index(f, index(x, y))", "f[a + b]": "index(f, +(a, b))", "a.b.c": "dot c(dot b(a))", "a''": "prime(prime(a))", "a'.b'[c]'": "prime(index(prime(dot b(prime(a))), c))",
		"(a + b)[c]": "index(+(a, b), c)", "(a + b)'": "prime(+(a, b))", "(a).b": "dot b(a)", "{a}[b]": "index(set(a), b)", "<<a>>[1]": "index(tuple(a), [1])", `"a".b`: `dot b("a")`, "1.b": "dot b([1])", "[a |-> 1].a": "dot a(record(field a([1])))", "@.a": "dot a(@)",
		"-f[x]": "pre -(index(f, x))", "-f.x'": "pre -(prime(dot x(f)))", "DOMAIN f[x]": "pre DOMAIN(index(f, x))", "[]f[x']": "pre [](index(f, prime(x)))", "a + b[c]": "+(a, index(b, c))", "a + b'": "+(a, prime(b))", "[A]_v'": "prime(square(A, v))", "[A]_f[x]": "index(square(A, f), x)", "<<A>>_v.a": "dot a(angle(A, v))", "WF_v(A)'": "prime(WF_(v, A))",
		"UNCHANGED (x')": "pre UNCHANGED(prime(x))", "~x'": "pre ~(prime(x))", "SUBSET x'": "pre SUBSET(prime(x))", "a ^ b'": "^(a, prime(b))", `[] a /\ b'`: `/\(pre [](a), prime(b))`, "- [](a)": "pre -(pre [](a))", "~[]~a'": "pre ~(pre [](pre ~(prime(a))))",
	} {
		expectExpr(t, text, want)
	}
	for _, x := range []struct {
		text string
		at   int
	}{{"f[", 2}, {"f[]", 1}, {"f[ ]", 3}, {"f[a", 3}, {"f[a,]", 4}, {"f[a)", 3}, {"f[a]_v", 3}, {"f.", 2}, {"f.1", 2}, {"f.IF", 2}, {"f.(a)", 2}, {"'a", 0}, {".a", 0}, {"f .. .a", 5}} {
		expectError(t, x.text, x.at, api.ErrParse)
		compareExpr(t, x.text)
	}
	for _, x := range []struct {
		text string
		at   int
	}{{"<>x'", 3}, {"ENABLED x'", 9}, {"UNCHANGED x[1]'", 14}, {"UNCHANGED x.a'[b]", 13}, {"~[]x'", 4}, {"[](x)'", 5}, {"[][A]_v'", 7}, {`a /\ []x'`, 8}, {"ENABLED {x'}'", 12}} {
		expectError(t, x.text, x.at, api.ErrPrec)
		compareExpr(t, x.text)
	}
}

func TestBinders(t *testing.T) {
	for text, want := range map[string]string{
		`\A x \in S : P`: `\A(bind(x, S), P)`, `\E x, y \in S, z \in T : P`: `\E(bind(x, y, S), bind(z, T), P)`, `\A <<x, y>> \in S, z \in T : P`: `\A(bind#1(x, y, S), bind(z, T), P)`, `\A <<x>> \in S : P`: `\A(bind#1(x, S), P)`, `\A x \in S : x = a /\ b`: `\A(bind(x, S), /\(=(x, a), b))`, `\A x \in \E y \in S : a : b`: `\A(bind(x, \E(bind(y, S), a)), b)`,
		`a => \A x \in S : P => Q`: `=>(a, \A(bind(x, S), =>(P, Q)))`, `~\A x \in S : P`: `pre ~(\A(bind(x, S), P))`, `(\A x \in S : P)'`: `prime(\A(bind(x, S), P))`, `\A x \in S : P'`: `\A(bind(x, S), prime(P))`,
		`CHOOSE x \in S : P`: "choose(bind(x, S), P)", `CHOOSE <<x, y>> \in S : P`: "choose(bind#1(x, y, S), P)", `CHOOSE <<x>> \in S : P`: "choose(bind#1(x, S), P)", `1 + CHOOSE x \in S : x + 1`: "+([1], choose(bind(x, S), +(x, [1])))",
		`{x \in S : P}`: "filter(bind(x, S), P)", `{<<x, y>> \in S : P}`: "filter(bind#1(x, y, S), P)", `{<<x>> \in S : P}`: "filter(bind#1(x, S), P)", `{(x) \in S : P}`: "filter(bind(x, S), P)", `{(<<x, (y)>>) \in S : P}`: "filter(bind#1(x, y, S), P)", `{x \in S \cup T : P}`: `filter(bind(x, \cup(S, T)), P)`, `{x \in (S) : P}`: "filter(bind(x, S), P)", `{x \in S : {y \in T : P}}`: "filter(bind(x, S), filter(bind(y, T), P))",
		`{x + 1 : x \in S}`: "map(+(x, [1]), bind(x, S))", `{x : x, y \in S, <<z>> \in T}`: "map(x, bind(x, y, S), bind#1(z, T))", `{((x \in S)) : x \in T}`: `map(\in(x, S), bind(x, T))`, `{1 \in S : x \in T}`: `map(\in([1], S), bind(x, T))`, `{<<>> \in S : x \in T}`: `map(\in(tuple(), S), bind(x, T))`, `{<<x, 1>> \in S : x \in T}`: `map(\in(tuple(x, [1]), S), bind(x, T))`, `{f(x) \in S : x \in T}`: `map(\in(call f(x), S), bind(x, T))`, `{x \in S /\ P : x \in T}`: `map(/\(\in(x, S), P), bind(x, T))`, `{x \notin S : x \in T}`: `map(\notin(x, S), bind(x, T))`, `{x' \in S : x \in T}`: `map(\in(prime(x), S), bind(x, T))`, `{x = y : x \in T}`: "map(=(x, y), bind(x, T))",
		`{\A x \in S : P : x \in T}`: `map(\A(bind(x, S), P), bind(x, T))`, `{M!x \in S : x \in T}`: `map(\in(qual(M, x), S), bind(x, T))`,
	} {
		expectExpr(t, text, want)
	}
	for _, x := range []struct {
		text string
		at   int
	}{
		{`\A`, 2}, {`\A : P`, 3}, {`\A x : P`, 5}, {`\A x \in S`, 10}, {`\A x \in S P`, 11}, {`\A x, \in S : P`, 6}, {`\A x \in S, : P`, 12}, {`\A <<x, y \in S : P`, 10}, {`\A <<x>>_y \in S : P`, 6}, {`\A <<>> \in S : P`, 5}, {`\A <<x, 1>> \in S : P`, 8}, {`\A (x) \in S : P`, 3}, {`\A 1 \in S : P`, 3}, {`\AA x : P`, 0}, {`\EE x \in S : P`, 0}, {`\A x' \in S : P`, 4},
		{`CHOOSE x : P`, 9}, {`CHOOSE x, y \in S : P`, 8}, {`CHOOSE x \in S, y \in S : P`, 14}, {`CHOOSE <<x>>, y \in S : P`, 12}, {`CHOOSE (x) \in S : P`, 7},
		{`{(x \in S) : P}`, 14}, {`{x : P}`, 6}, {`{x \in S : P, y}`, 12}, {`{x \in S : P : y}`, 13}, {`{x : y \in S, }`, 14}, {`{x, y \in S : P}`, 12}, {`{ : }`, 2}, {"{x", 2}, {"{,}", 1}, {"{x,}", 3}, {"{x]", 2}, {`{x : x \in S : y}`, 13}, {`{x |-> y}`, 3},
	} {
		expectError(t, x.text, x.at, api.ErrParse)
		compareExpr(t, x.text)
	}
}

func TestSetsAndTuples(t *testing.T) {
	for text, want := range map[string]string{
		"{}": "set()", "{ a }": "set(a)", "{a, b + c, {}}": "set(a, +(b, c), set())", `{x \in S}`: `set(\in(x, S))`, `{x \in S, y}`: `set(\in(x, S), y)`,
		"<<>>": "tuple()", "<<a>>": "tuple(a)", "<<a, <<>>, b>>": "tuple(a, tuple(), b)", "<<A>>_v": "angle(A, v)", "<<A>>_M!v": "angle(A, qual(M, v))", "<<A>>_<<x, y>>": "angle(A, tuple(x, y))", "<<A>>_<<>>": "angle(A, tuple())", "<<A>>_(x + y)": "angle(A, +(x, y))", "<<x \\in S, y>>": `tuple(\in(x, S), y)`, "<<<<A>>_v>>_w": "angle(angle(A, v), w)",
		`A \X B`: "product(A, B)", `A \X B ^ C \X D`: "product(A, ^(B, C), D)", `A \X (B \X C)`: "product(A, product(B, C))", `A \X ~B \X C`: `product(A, pre ~(product(B, C)))`, `A \X B = C \X D`: "=(product(A, B), product(C, D))", `A \cup B \X C \X D \cup E`: `\cup(\cup(A, product(B, C, D)), E)`,
	} {
		expectExpr(t, text, want)
	}
	for _, x := range []struct {
		text string
		at   int
		e    api.Errno
	}{
		{"<<", 2, api.ErrParse}, {"<<a", 3, api.ErrParse}, {"<<,>>", 2, api.ErrParse}, {"<<a,>>", 4, api.ErrParse}, {"<<>>_v", 2, api.ErrParse}, {"<<a, b>>_v", 6, api.ErrParse}, {"<<a>>_", 6, api.ErrParse}, {"<<a>>_1", 6, api.ErrParse}, {"<<a>>_f(x)", 7, api.ErrParse}, {"<<a>>_<<b>>_c", 9, api.ErrParse}, {"<<a>>_M!1", 8, api.ErrParse}, {"<<a>>_M!f(x)", 9, api.ErrParse}, {"<<a>>_[b]", 6, api.ErrParse}, {"<<a>> _b", 6, api.ErrParse}, {"<<a]", 3, api.ErrParse},
		{`A \X B * C`, 7, api.ErrPrec}, {`A * B \X C`, 6, api.ErrPrec}, {`A \X B + C`, 7, api.ErrPrec},
	} {
		expectError(t, x.text, x.at, x.e)
		compareExpr(t, x.text)
	}
}

func TestBrackets(t *testing.T) {
	for text, want := range map[string]string{
		`[x, y \in S, <<z>> \in T |-> x]`: "fun(bind(x, y, S), bind#1(z, T), x)", `[x \in S |-> [y \in T |-> x]]`: "fun(bind(x, S), fun(bind(y, T), x))", `[<<a, b>> \in S |-> a]`: "fun(bind#1(a, b, S), a)", `[x \in [y \in S |-> y] |-> x]`: "fun(bind(x, fun(bind(y, S), y)), x)",
		"[a |-> 1, b |-> 2]": "record(field a([1]), field b([2]))", "[a : S, b : T]": "recset(field a(S), field b(T))", "[a |-> [b |-> 1]]": "record(field a(record(field b([1]))))", "[a : [b : S]]": "recset(field a(recset(field b(S))))", "[a |-> 1, a |-> 1]": "record(field a([1]), field a([1]))",
		"[S -> T]": "funset(S, T)", "[S -> [T -> U]]": "funset(S, funset(T, U))", `[{x \in S : P} -> T]`: "funset(filter(bind(x, S), P), T)", `[[a |-> 1] -> [x \in S |-> x]]`: "funset(record(field a([1])), fun(bind(x, S), x))",
		"[A]_v": "square(A, v)", "[A]_M!v": "square(A, qual(M, v))", "[A]_<<x, y>>": "square(A, tuple(x, y))", "[A]_(x')": "square(A, prime(x))", "[A /\\ B]_v": `square(/\(A, B), v)`, "[[A]_v]_w": "square(square(A, v), w)", "[]([A]_v => B)": "pre [](=>(square(A, v), B))", "[x]_y + z": "+(square(x, y), z)", "[f(LAMBDA a : a)]_v": "square(call f(lambda(decl a, a)), v)",
		"[f EXCEPT ![1] = 2]": "except(f, update(step([1]), [2]))", "[f EXCEPT ![1, a].b[c] = @ + 1, !.d = e]": "except(f, update(step([1], a), step b, step(c), +(@, [1])), update(step d, e))", "[f[x] EXCEPT !.a = [b |-> 1]]": "except(index(f, x), update(step a, record(field b([1]))))", `[[x \in S |-> x] EXCEPT ![a] = b]`: "except(fun(bind(x, S), x), update(step(a), b))", "[f EXCEPT !.a = b = c]": "except(f, update(step a, =(b, c)))", "[f EXCEPT !.a = M!b, !.c = d]": "except(f, update(step a, qual(M, b)), update(step c, d))",
		`[x \in S]_v`: `square(\in(x, S), v)`, `[x \in S -> T]`: `funset(\in(x, S), T)`, "[f EXCEPT ![[a |-> 1]] = 2]": "except(f, update(step(record(field a([1]))), [2]))",
	} {
		expectExpr(t, text, want)
	}
	for _, x := range []struct {
		text string
		at   int
	}{
		{"[", 1}, {"[a", 2}, {"[a]", 2}, {"[ ]", 2}, {"[a b]", 3}, {"[a, b]", 2}, {"[a |-> 1", 8}, {"[a |-> 1, b]", 11}, {"[a |-> 1, b : 2]", 12}, {"[a : 1, b |-> 2]", 10}, {"[a |-> 1, ]", 10}, {"[a |-> ]", 7}, {"[1 |-> 2]", 1}, {`["a" |-> 2]`, 1}, {"[(a) |-> 2]", 1}, {"[a |-> 1]_v", 8}, {`[x \in S, |-> x]`, 10}, {`[x \in S |-> x`, 14}, {`[x \in S |-> x, y]`, 14}, {`[x + 1 |-> y]`, 3}, {`[x, y |-> z]`, 6}, {`[x \in S |-> x]_v`, 14}, {`[(x \in S) |-> x]`, 1},
		{"[S -> T", 7}, {"[S -> T -> U]", 8}, {"[S -> T]_v", 7}, {"[S -> ]", 6}, {"[S <- T]", 3}, {"[A]_", 4}, {"[A]_1", 4}, {"[A]_x(y)", 5}, {"[A]_M!", 6}, {"[A] _x", 2}, {"[A]_<<x>>_y", 7}, {"[A]_{x}", 4}, {"[A]_<<x", 7},
		{"[f EXCEPT]", 9}, {"[f EXCEPT !]", 11}, {"[f EXCEPT ! = 1]", 12}, {"[f EXCEPT ![1]]", 14}, {"[f EXCEPT ![1] == 2]", 15}, {"[f EXCEPT ![] = 2]", 11}, {"[f EXCEPT !.1 = 2]", 12}, {"[f EXCEPT !a = 2]", 11}, {"[f EXCEPT ![1] = 2, [2] = 3]", 20}, {"[f EXCEPT ![1] = 2 ![2] = 3]", 19}, {"[f EXCEPT ![1] = a ![2] = 3]", 20}, {"[f EXCEPT ![1]' = 2]", 14}, {"[f EXCEPT ![1] = 2]_v", 18}, {"[f EXCEPT ![1]_v = 2]", 13}, {"[f EXCEPT ![LAMBDA x : x] = 2]", 12},
		{"[a }|-> b]", 3}, {`[x \in S } |-> x]`, 9},
	} {
		expectError(t, x.text, x.at, api.ErrParse)
		compareExpr(t, x.text)
	}
}

func TestWords(t *testing.T) {
	for text, want := range map[string]string{
		"IF a THEN b ELSE c": "if(a, b, c)", "IF a THEN IF b THEN c ELSE d ELSE e + f": "if(a, if(b, c, d), +(e, f))", "a + IF b THEN c ELSE d + e": "+(a, if(b, c, +(d, e)))", "(IF a THEN b ELSE c) + d": "+(if(a, b, c), d)", "~IF a THEN b ELSE c'": "pre ~(if(a, b, prime(c)))",
		"CASE a -> b": "case(arm(a, b))", "CASE a -> b [] c -> d": "case(arm(a, b), arm(c, d))", "CASE a -> []b [] c -> d": "case(arm(a, pre [](b)), arm(c, d))", "CASE a -> b [] OTHER -> c": "case(arm(a, b), arm#1(c))",
		"CASE a -> CASE b -> c [] d -> e": "case(arm(a, case(arm(b, c), arm(d, e))))", "CASE a -> CASE b -> c [] OTHER -> d [] e -> f": "case(arm(a, case(arm(b, c), arm#1(d))), arm(e, f))", "CASE a -> CASE b -> c [] OTHER -> d [] OTHER -> e": "case(arm(a, case(arm(b, c), arm#1(d))), arm#1(e))", "CASE (a) -> (b)": "case(arm(a, b))",
		"LET x == 1 IN x": "let(def x([1]), x)", "LET x == y z == x IN z + 1": "let(def x(y), def z(x), +(z, [1]))", "LET f(x, g(_, _)) == x IN f(1, +)": "let(def f(decl x, decl g#2, x), call f([1], sign +))", `LET f[x \in S, y, z \in T] == x IN f`: "let(fundef f(bind(x, S), bind(y, z, T), x), f)", `LET f[<<x>> \in S] == x IN f`: "let(fundef f(bind#1(x, S), x), f)", "LET a (+) b == a a | b == a IN a (+) b": "let(def (+)(decl a, decl b, a), def |(decl a, decl b, a), (+)(a, b))", "LET x == LET y == 1 IN y IN x": "let(def x(let(def y([1]), y)), x)", "a = LET x == 1 IN x = 1": "=(a, let(def x([1]), =(x, [1])))",
		"WF_v(A)": "WF_(v, A)", "SF_<<x, y>>(A /\\ B)": `SF_(tuple(x, y), /\(A, B))`, "WF_M!v(A)": "WF_(qual(M, v), A)", "WF_(x + y)(A)": "WF_(+(x, y), A)", "WF_ v (A)": "WF_(v, A)", "~WF_v(A) => B": "=>(pre ~(WF_(v, A)), B)", "WF_<<>>(A)": "WF_(tuple(), A)",
	} {
		expectExpr(t, text, want)
	}
	for _, x := range []struct {
		text string
		at   int
	}{
		{"IF", 2}, {"IF a", 4}, {"IF a THEN b", 11}, {"IF a ELSE b", 5}, {"IF a THEN b c", 12}, {"IF THEN", 3}, {"THEN", 0}, {"a THEN", 2},
		{"CASE", 4}, {"CASE OTHER -> a", 5}, {"CASE a", 6}, {"CASE a |-> b", 7}, {"CASE a -> b []", 14}, {"CASE a -> b [] OTHER", 20}, {"CASE a -> b [] OTHER -> c [] d -> e", 26}, {"CASE a -> b [] OTHER -> c [] OTHER -> e", 26}, {"CASE a -> b, c -> d", 11}, {"OTHER", 0},
		{"LET", 3}, {"LET IN a", 4}, {"LET x IN a", 6}, {"LET x == 1", 10}, {"LET x == 1, y == 2 IN x", 10}, {"LET LOCAL x == 1 IN x", 4}, {"LET x == INSTANCE M IN x", 9}, {"LET INSTANCE M IN x", 4}, {"LET f() == 1 IN f", 6}, {"LET f(1) == 1 IN f", 6}, {"LET f(g()) == 1 IN f", 8}, {"LET f(g(_,)) == 1 IN f", 10}, {"LET f(g(x)) == 1 IN f", 8}, {"LET f[x] == 1 IN f", 7}, {"LET a + b == 1 IN a", 6}, {"LET a (+) 1 == 1 IN a", 10}, {"LET (+) b == 1 IN a", 4}, {"LET a (+) b(_) == a IN a", 11}, {"LET - a == a IN a", 4}, {`LET f[x \in S] == INSTANCE M IN f`, 18}, {"LET RECURSIVE f IN f", 4},
		{"WF_", 3}, {"WF_v", 4}, {"WF_v A", 5}, {"WF_v(A", 6}, {"WF_v()", 5}, {"WF_f(x)(A)", 7}, {"WF_1(A)", 3}, {"WF_v[A]", 4}, {"WF_v(A, B)", 6}, {"WF_<<x>>_v(A)", 6}, {"WF_WF_v(A)", 3},
	} {
		expectError(t, x.text, x.at, api.ErrParse)
		compareExpr(t, x.text)
	}
}

func TestNoExpressions(t *testing.T) {
	for _, x := range []struct {
		text string
		at   int
		e    api.Errno
	}{
		{"", 0, api.ErrParse}, {" ", 1, api.ErrParse}, {"\n\\* a\n", 6, api.ErrParse}, {"()", 1, api.ErrParse}, {")", 0, api.ErrParse}, {"(a))", 3, api.ErrParse}, {"a)", 1, api.ErrParse}, {"a +", 3, api.ErrParse}, {"+ a", 0, api.ErrParse}, {"a + + b", 4, api.ErrParse}, {"~", 1, api.ErrParse}, {"a ~ b", 2, api.ErrParse}, {"a := b", 2, api.ErrParse}, {"a |- b", 2, api.ErrParse}, {"a -| b", 2, api.ErrParse}, {"a == b", 2, api.ErrParse}, {"a _ b", 2, api.ErrParse}, {"----", 0, api.ErrParse}, {"a ----", 2, api.ErrParse}, {"====", 0, api.ErrParse}, {"MODULE", 0, api.ErrParse}, {"x; y", 1, api.ErrParse}, {"a, b", 1, api.ErrParse}, {"ASSUME a", 0, api.ErrParse}, {"a DOMAIN b", 2, api.ErrParse}, {"a ENABLED", 2, api.ErrParse}, {"!a", 0, api.ErrParse}, {"a [] b", 2, api.ErrParse}, {"(a b", 3, api.ErrParse}, {"a = b = ?", 8, api.ErrChar},
		{"a ? b", 2, api.ErrChar}, {"a + \"b", 4, api.ErrQuote}, {"(* a", 0, api.ErrComment}, {`\b2`, 0, api.ErrDigits}, {"a " + strings.Repeat("n", 41), 2, api.ErrLong}, {") ?", 2, api.ErrChar}, {strings.Repeat(" ", api.MaxText+1), 0, api.ErrLimit}, {strings.Repeat("a ", api.MaxTokens+1), 0, api.ErrLimit},
		{strings.Repeat("a ", api.MaxTokens), 2, api.ErrParse}, {"a = b = c )", 6, api.ErrPrec}, {") a = b = c", 0, api.ErrParse},
	} {
		expectError(t, x.text, x.at, x.e)
	}
	for _, text := range []string{"", "a ? b", "a b", strings.Repeat(" ", api.MaxText+1)} { // the same in modules
		_, at, e := parse.Expr(text)
		if strings.HasPrefix(text, "a b") {
			at = 0
		}
		if n, a, f := parse.Module(text); !isZero(n) || a != at || f != e {
			t.Errorf("Module(%.20q): %d at %d", text, f, a)
		}
		if l, a, f := parse.Modules(text); len(l) != 0 || a != at || f != e {
			t.Errorf("Modules(%.20q): %d at %d", text, f, a)
		}
	}
}

// lines puts lines together.
func lines(l ...string) string { return strings.Join(l, "\n") }

func TestBulletedLists(t *testing.T) {
	for text, want := range map[string]string{
		`/\ a`: `list /\(a)`, `\/ a`: `list \/(a)`, `\land a`: `list /\(a)`, `/\ a /\ b`: `list /\(/\(a, b))`, `/\ /\ a`: `list /\(list /\(a))`,
		lines(`/\ a`, `/\ b`, `/\ c`):                              `list /\(a, b, c)`,
		lines(`  /\ a`, `  \land b`):                               `list /\(a, b)`,
		lines(`/\ a`, ` /\ b`):                                     `list /\(/\(a, b))`,
		lines(`  /\ a`, ` /\ b`):                                   `/\(list /\(a), b)`,
		lines(`/\ a`, `\/ b`):                                      `\/(list /\(a), b)`,
		lines(`/\ \/ a`, `   \/ b`, `/\ \/ c`):                     `list /\(list \/(a, b), list \/(c))`,
		lines(`/\ \/ a`, `  \/ b`):                                 `list /\(\/(list \/(a), b))`,
		lines(`/\ \/ a`, `  = b`):                                  `list /\(=(list \/(a), b))`,
		lines(`/\ \/ a`, `= b`):                                    `=(list /\(list \/(a)), b)`,
		lines(`/\ /\ a`, `   /\ b`, `/\ c`):                        `list /\(list /\(a, b), c)`,
		lines(`/\ a`, `   + b`, `/\ c`, `  + d`):                   `list /\(+(a, b), +(c, d))`,
		lines(`/\ a`, `+ b`):                                       `+(list /\(a), b)`,
		lines(`/\ a`, `'`):                                         `prime(list /\(a))`,
		lines(` /\ a`, `.b`):                                       `dot b(list /\(a))`,
		lines(` /\ a`, `[b]`):                                      `index(list /\(a), b)`,
		lines(` /\ a`, ` [b]`):                                     `index(list /\(a), b)`,
		lines(`a`, `/\ b`, `/\ c`):                                 `/\(/\(a, b), c)`,
		lines(`x = /\ a`, `    /\ b`):                              `=(x, list /\(a, b))`,
		lines(`~ /\ a`, `  /\ b`):                                  `pre ~(list /\(a, b))`,
		lines(`~ /\ a`, `  /\ b`, ` = c`):                          `pre ~(=(list /\(a, b), c))`,
		lines(`(/\ a`, ` /\ b)`):                                   `list /\(a, b)`,
		lines(`(/\ a`, ` /\ b`, `)'`):                              `prime(list /\(a, b))`,
		lines(`f(/\ a`, `  /\ b, c)`):                              `call f(list /\(a, b), c)`,
		lines(`IF /\ a`, `   /\ b`, ` THEN c ELSE d`):              `if(list /\(a, b), c, d)`,
		lines(`/\ IF a`, `   THEN /\ b`, `   ELSE c`):              `list /\(if(a, list /\(b), c))`,
		lines(`/\ \A x \in S :`, `     /\ x`, `/\ b`):              `list /\(\A(bind(x, S), list /\(x)), b)`,
		lines(`/\ \A x \in S : x`, `' `):                           `prime(list /\(\A(bind(x, S), x)))`,
		lines(`/\ CASE a -> b`, `     [] c -> d`, `/\ e`):          `list /\(case(arm(a, b), arm(c, d)), e)`,
		lines(`CASE a -> /\ b`, `[] c -> d`):                       `case(arm(a, list /\(b)), arm(c, d))`,
		lines(`/\ [a |->`, `       1]`, `/\ b`):                    `list /\(record(field a([1])), b)`,
		lines(`/\ a`, ` \/ b`, `/\ c`):                             `list /\(\/(a, b), c)`,
		lines(`/\ a`, `\/ b`, `\/ c`):                              `\/(\/(list /\(a), b), c)`,
		lines("\t/\\ a", "        /\\ b"):                          `list /\(a, b)`,
		lines(`/\ `, ` a`, `/\`, `    b`):                          `list /\(a, b)`,
		lines(`/\ LET x == 1`, `       y == 2`, `   IN x`, `/\ c`): `list /\(let(def x([1]), def y([2]), x), c)`,
		lines(`\/ \/ \/ a`, `      \/ b`, `   \/ c`, `\/ d`):       `list \/(list \/(list \/(a, b), c), d)`,
		lines(`/\ []a`, `/\ b'`, `'`):                              `prime(list /\(pre [](a), prime(b)))`,
		`/\ f(/\, \/ )`:                                            `list /\(call f(sign /\, sign \/))`,
	} {
		expectExpr(t, text, want)
	}
	for _, x := range []struct {
		text string
		at   int
		e    api.Errno
	}{
		{`/\`, 2, api.ErrParse}, {lines(`/\`, `/\ a`), 3, api.ErrParse}, {lines(`/\ a`, `/\`), 7, api.ErrParse}, {lines(`  /\`, ` a`), 6, api.ErrParse}, {lines(`  /\`, `  a`), 7, api.ErrParse}, {lines(`/\ (a`, `)`), 6, api.ErrParse}, {lines(`/\ (a`, `/\ b)`), 6, api.ErrParse}, {lines(`(/\ a`, `)`, `/\ (b`), 13, api.ErrParse}, {lines(`  /\ a`, `b`), 7, api.ErrParse},
		{lines(`/\ a`, `\/ b`, `/\ c`), 10, api.ErrPrec}, {lines(`/\ f(a,`, `b)`), 8, api.ErrParse}, {lines(`/\ f(+`, `, a)`), 5, api.ErrParse}, {lines(`/\ f(-`, `)`), 7, api.ErrParse}, {lines(`/\ IF a`, `THEN b ELSE c`), 8, api.ErrParse}, {lines(`[] /\ a`, `'`), 8, api.ErrPrec},
		{lines(`/\ [x \in S`, `|-> x]`), 12, api.ErrParse}, {lines(`/\ [a`, `|-> x]`), 6, api.ErrParse}, {lines(`/\ [a`, `: x]`), 6, api.ErrParse}, {lines(`/\ {a`, `}`), 6, api.ErrParse}, {lines(`/\ [A`, `]_v`), 6, api.ErrParse}, {lines(`/\ a +`, `b`), 7, api.ErrParse}, {lines(`/\ ~`, `b`), 5, api.ErrParse}, {lines(`/\ M!`, `b`), 6, api.ErrParse},
	} {
		expectError(t, x.text, x.at, x.e)
		compareExpr(t, x.text)
	}
}

// TestBytes checks At and End, of parentheses at all places.
func TestBytes(t *testing.T) {
	for _, x := range []struct {
		text string
		path []int
		want string // what stands at the bytes
	}{
		{" a ", nil, "a"}, {"(a)", nil, "a"}, {"((a)) + (b)", nil, "((a)) + (b)"}, {"((a)) + (b)", []int{0}, "a"}, {"((a)) + (b)", []int{1}, "b"}, {"(a + (b))", nil, "a + (b)"}, {"((a)+b)*c", []int{0}, "(a)+b"}, {"~ (a)", nil, "~ (a)"}, {"~ (a)", []int{0}, "a"}, {"-(a)'", nil, "-(a)'"}, {"-(a)'", []int{0}, "(a)'"}, {"(a)[(b)]", nil, "(a)[(b)]"}, {"(a).b", nil, "(a).b"}, {"(f)[x].a'", []int{0}, "(f)[x].a"}, {"(f)[x].a'", []int{0, 0}, "(f)[x]"},
		{`(A) \X B \X (C)`, nil, `(A) \X B \X (C)`}, {`(A) \X B \X (C)`, []int{2}, "C"}, {"a + b + c", []int{0}, "a + b"}, {"(a) + b + c", []int{0}, "(a) + b"}, {"-(a) + b", nil, "-(a) + b"}, {"-(a) + b", []int{0}, "-(a)"}, {"a * -(b) + c", []int{0}, "a * -(b)"},
		{`{x \in (S) : (P)}`, []int{0}, `x \in (S)`}, {`{(x) \in S : P}`, []int{0}, `(x) \in S`}, {`{(x) \in S : P}`, []int{0, 0}, "x"}, {`{(<<x>>) \in S : P}`, []int{0}, `(<<x>>) \in S`}, {`{(a) : x \in (S)}`, []int{0}, "a"}, {`{(a) : x \in (S)}`, []int{1}, `x \in (S)`}, {`{<<x, y>> \in S : P}`, []int{0, 1}, "y"},
		{`\A x, y \in (S) : (P)`, nil, `\A x, y \in (S) : (P)`}, {`\A x, y \in (S) : (P)`, []int{0}, `x, y \in (S)`}, {`\A x, y \in (S) : (P)`, []int{1}, "P"}, {`\A <<x>> \in S : P`, []int{0}, `<<x>> \in S`},
		{"CASE (a) -> (b) [] OTHER -> (c)", []int{0}, "(a) -> (b)"}, {"CASE (a) -> (b) [] OTHER -> (c)", []int{1}, "OTHER -> (c)"}, {"CASE (a) -> (b) [] OTHER -> (c)", nil, "CASE (a) -> (b) [] OTHER -> (c)"}, {"IF (a) THEN b ELSE (c) ", nil, "IF (a) THEN b ELSE (c)"},
		{"[(A)]_(v) ", nil, "[(A)]_(v)"}, {"[(A)]_(v)", []int{1}, "v"}, {"<<A>>_M!v", nil, "<<A>>_M!v"}, {"<<A>>_M!v", []int{1}, "M!v"}, {"WF_<<x>>((A))", nil, "WF_<<x>>((A))"}, {"WF_<<x>>((A))", []int{0}, "<<x>>"}, {"WF_(x)((A))", []int{1}, "A"},
		{"[a |-> (1), b |-> 2]", []int{0}, "a |-> (1)"}, {"[(f) EXCEPT ![(a)].b = (c)]", []int{1}, "![(a)].b = (c)"}, {"[(f) EXCEPT ![(a)].b = (c)]", []int{1, 0}, "[(a)]"}, {"[(f) EXCEPT ![(a)].b = (c)]", []int{1, 1}, ".b"}, {"[(f) EXCEPT ![(a)].b = (c)]", []int{0}, "f"},
		{"f( + , LAMBDA x : (x))", []int{0}, "+"}, {"f( + , LAMBDA x : (x))", []int{1}, "LAMBDA x : (x)"}, {"f( + , LAMBDA x : (x))", []int{1, 0}, "x"}, {"f( + , LAMBDA x : (x))", nil, "f( + , LAMBDA x : (x))"}, {"M!N((1))", []int{1}, "N((1))"}, {"M!N((1))", nil, "M!N((1))"},
		{"LET f(g(_, _), x) == (a) IN (b)", []int{0}, "f(g(_, _), x) == (a)"}, {"LET f(g(_, _), x) == (a) IN (b)", []int{0, 0}, "g(_, _)"}, {"LET a (+) b == (c) IN d", []int{0}, "a (+) b == (c)"}, {"LET a (+) b == (c) IN d", []int{0, 0}, "a"}, {"LET a (+) b == (c) IN d", []int{0, 1}, "b"}, {`LET f[x \in S] == (c) IN d`, []int{0}, `f[x \in S] == (c)`},
		{lines(`/\ (a)`, `/\ (b)`), nil, lines(`/\ (a)`, `/\ (b)`)}, {lines(`(/\ (a)`, ` /\ (b)) + c`), []int{0}, lines(`/\ (a)`, ` /\ (b)`)}, {lines(`(/\ (a)`, ` /\ (b)) + c`), nil, lines(`(/\ (a)`, ` /\ (b)) + c`)},
	} {
		n := tree(t, x.text)
		for _, i := range x.path {
			n = n.L[i]
		}
		if got := x.text[n.At:n.End]; got != x.want {
			t.Errorf("%q, the node %v: %q, want %q", x.text, x.path, got, x.want)
		}
	}
}

func TestDepth(t *testing.T) {
	const most = api.MaxDeepN
	deep := func(n int) []string { // texts of trees of this depth
		return []string{strings.Repeat("~", n-1) + "a", strings.Repeat("f(", n-1) + "a" + strings.Repeat(")", n-1), "a" + strings.Repeat("'", n-1), "a" + strings.Repeat(" + a", n-1), strings.Repeat("(a) => (", n-1) + "a" + strings.Repeat(")", n-1), strings.Repeat(`/\ `, n-1) + "a", strings.Repeat("{", n-1) + "}"}
	}
	for i, text := range deep(most) {
		if i == 6 { // the empty set is a node, too
			text = strings.Repeat("{", most) + strings.Repeat("}", most)
		}
		if n := tree(t, text); depthOf(n) != most {
			t.Errorf("%.20q: the depth %d", text, depthOf(n))
		}
	}
	for i, text := range deep(most + 1) {
		if i == 6 {
			text = strings.Repeat("{", most+1) + strings.Repeat("}", most+1)
		}
		expectError(t, text, 0, api.ErrLimit)
		expectError(t, text+" )", len(text)+1, api.ErrParse) // ahead of ErrLimit
	}
	expectExpr(t, strings.Repeat("(", 9999)+"a"+strings.Repeat(")", 9999), "a") // 19999 tokens
	for _, x := range []struct {
		count int
		e     api.Errno
	}{{most - 2, api.OK}, {most - 1, api.ErrLimit}} {
		text := head + "A == " + strings.Repeat("~", x.count-1) + "a\n====\n" // the module, the definition, and the expression
		if n, at, e := parse.Module(text); e != x.e || at != 0 || isZero(n) != (e != api.OK) {
			t.Errorf("a module with %d nodes within each other: %d at %d", x.count+2, e, at)
		}
		if l, at, e := parse.Modules(head + "====\n" + text); e != x.e || at != 0 || len(l) != map[bool]int{true: 2}[e == api.OK] {
			t.Errorf("modules with %d nodes within each other: %d at %d", x.count+2, e, at)
		}
		if _, at, e := parse.Modules(text + "a"); at != len(text) || e != api.ErrParse {
			t.Errorf("modules with an error: %d at %d", e, at)
		}
	}
}

// TestLarge checks that large texts are read in their whole size.
func TestLarge(t *testing.T) {
	for text, count := range map[string]int{
		"{a" + strings.Repeat(", a", 9998) + "}": 10000, "a" + strings.Repeat(` \X a`, 9999): 10001, strings.Repeat("(", 9999) + "a" + strings.Repeat(")", 9999): 1, "<<" + strings.TrimSuffix(strings.Repeat("[a |-> 1],", 3332), ",") + ">>": 1 + 3*3332, strings.TrimSuffix(strings.Repeat("/\\ a\n", 10000), "\n"): 10001,
	} {
		if nodes, _ := parse.Size(tree(t, text)); nodes != count {
			t.Errorf("%.20q: %d nodes, want %d", text, nodes, count)
		}
	}
	for _, open := range []string{"[", "[x", `[x \in `, "f[", "(", "{", "<<", "[f EXCEPT ![", `/\ `, "IF ", "CASE ", "LET x == "} { // as many within each other as there may be
		l := len(tokensOf(t, open))
		text := strings.Repeat(open, api.MaxTokens/l)
		if _, _, e := parse.Expr(text); e != api.ErrParse {
			t.Errorf("%q, again and again: %d", open, e)
		}
	}
}

// Calls change no argument, and what they have returned stays as it is.

func TestPurity(t *testing.T) {
	l := tokensOf(t, `{x \in 12 : 34}`)
	kept := slices.Clone(l)
	n, _, _ := parse.ExprAt(l, 0)
	n.L[0].L[1].I.D[0] = 99
	n.L[1].I.D[0] = 99
	for i := range kept {
		if l[i].S != kept[i].S || len(l[i].I.D) > 0 && l[i].I.D[0] == 99 {
			t.Errorf("the token %d is changed", i)
		}
	}
	again, _, _ := parse.ExprAt(l, 0)
	l[3].I.D[0], l[5].I.D[0] = 56, 78
	if brief(again) != "filter(bind(x, [12]), [34])" {
		t.Errorf("%s", brief(again))
	}
	a := tree(t, "<<a, 12, <<b>>>>")
	b := parse.Bare(a)
	b.L[1].I.D[0], b.L[2].L[0].S = 99, "z"
	if brief(a) != "tuple(a, [12], tuple(b))" || a.At != 0 || a.End != 16 {
		t.Errorf("%s", brief(a))
	}
}
