package amend_test

import (
	"strconv"
	"strings"
	"testing"

	"amend/amend"
	"amend/api"
)

func TestP5Examples(t *testing.T) {
	patches(t, widest, "[1,2]", `[{"op":"add","path":"/1","value":9},{"op":"add","path":"/-","value":8}]`, "[1,9,2,8]")
	patchRefused(t, widest, "[1,2]", `[{"op":"remove","path":"/0"},{"op":"remove","path":"/7"}]`, refusedAt(api.ErrTarget, 1))
	document := `{"a":{"b":1}}`
	patchRefused(t, widest, document, `[{"op":"move","from":"/a","path":"/a/b"}]`, refusedAt(api.ErrMove, 0))
	patches(t, widest, document, `[{"op":"copy","from":"/a","path":"/c"},{"op":"move","from":"/a/b","path":"/d"}]`, `{"a":{},"c":{"b":1},"d":1}`)
	patchRefused(t, widest, document, `[{"op":"add","path":"/x"}]`, refusedAt(api.ErrPatch, 0))
	letters := `["` + strings.Repeat("a", 1000) + `"]`
	expect(t, widest,
		[]api.Op{load(letters), patch(copies(19)), dump, patch(copies(18)), patch(copies(1)), get("/18"), get("/19")},
		told(""), refusedAt(api.ErrLong, 18), told(letters), told(""), refusedAt(api.ErrLong, 0), told(letters[1:1003]), refused(api.ErrTarget))
}

// copies is a patch that n times puts a copy of the first element at the end.
func copies(n int) string { return "[" + copying(n) + "]" }

func copying(n int) string {
	return strings.TrimSuffix(strings.Repeat(`{"op":"copy","from":"/0","path":"/-"},`, n), ",")
}

// patchCase is a document, a patch, and what becomes of it: another document,
// or an error in an operation.
type patchCase struct {
	document, patch, want string
	code                  api.Errno
	at                    int
}

func (x patchCase) holds(t *testing.T, c api.Config) {
	t.Helper()
	if x.code == api.OK {
		patches(t, c, x.document, x.patch, x.want)
		return
	}
	patchRefused(t, c, x.document, x.patch, refusedAt(x.code, x.at))
}

// one is a patch of one operation, told by pairs of a member's name and value.
func one(op string, members ...string) string {
	return "[" + operation(op, members...) + "]"
}

func operation(op string, members ...string) string {
	s := `{"op":"` + op + `"`
	for i := 0; i < len(members); i += 2 {
		s += `,"` + members[i] + `":` + members[i+1]
	}
	return s + "}"
}

func TestP5Add(t *testing.T) {
	for _, x := range []patchCase{
		{document: `{"a":1}`, patch: one("add", "path", `""`, "value", "[7]"), want: "[7]"},
		{document: "1", patch: one("add", "path", `""`, "value", "null"), want: "null"},
		{document: "{}", patch: one("add", "path", `"/a"`, "value", "1.50"), want: `{"a":1.5}`},
		{document: `{"a":1}`, patch: one("add", "path", `"/a"`, "value", "{}"), want: `{"a":{}}`},
		{document: `{"a":null}`, patch: one("add", "path", `"/a"`, "value", "2"), want: `{"a":2}`},
		{document: `{"a":{"b":[]}}`, patch: one("add", "path", `"/a/b/0"`, "value", "[[]]"), want: `{"a":{"b":[[[]]]}}`},
		{document: "{}", patch: one("add", "path", `"/"`, "value", "0"), want: `{"":0}`},
		{document: "{}", patch: one("add", "path", `"/~0~1~01"`, "value", "0"), want: `{"~/~1":0}`},
		{document: `{"a":1}`, patch: "[" + operation("add", "path", `"/-"`, "value", "2") + "," + operation("add", "path", `"/01"`, "value", "3") + "," + operation("add", "path", `"/0"`, "value", "4") + "]", want: `{"-":2,"01":3,"0":4,"a":1}`},
		{document: `{"\u0000é😀":1}`, patch: one("add", "path", `"/\u0000\u00e9\ud83d\ude00"`, "value", "2"), want: `{"\u0000é😀":2}`},
		{document: "[]", patch: one("add", "path", `"/-"`, "value", "1"), want: "[1]"},
		{document: "[]", patch: one("add", "path", `"/0"`, "value", "1"), want: "[1]"},
		{document: "[]", patch: one("add", "path", `"/1"`, "value", "1"), code: api.ErrTarget},
		{document: "[1,2]", patch: one("add", "path", `"/0"`, "value", "3"), want: "[3,1,2]"},
		{document: "[1,2]", patch: one("add", "path", `"/1"`, "value", "3"), want: "[1,3,2]"},
		{document: "[1,2]", patch: one("add", "path", `"/2"`, "value", "3"), want: "[1,2,3]"},
		{document: "[1,2]", patch: one("add", "path", `"/-"`, "value", "3"), want: "[1,2,3]"},
		{document: "[1,2]", patch: one("add", "path", `"/3"`, "value", "3"), code: api.ErrTarget},
		{document: "[1,2]", patch: one("add", "path", `"/9223372036854775807"`, "value", "3"), code: api.ErrTarget},
		{document: "[1,2]", patch: one("add", "path", `"/18446744073709551617"`, "value", "3"), code: api.ErrTarget},
		{document: "[1,2]", patch: one("add", "path", `"/1`+strings.Repeat("0", 1000)+`"`, "value", "3"), code: api.ErrTarget},
		{document: "[0,1,2,3,4,5,6,7,8,9]", patch: one("add", "path", `"/10"`, "value", "[]"), want: "[0,1,2,3,4,5,6,7,8,9,[]]"},
		{document: `{"a":[[1]]}`, patch: one("add", "path", `"/a/0/0"`, "value", "2"), want: `{"a":[[2,1]]}`},
	} {
		x.holds(t, widest)
	}
	for _, token := range []string{"", "01", "00", "-1", "-0", "+1", "x", "--", "1e0", " 1", "1 ", "~01", "٠"} {
		patchCase{document: "[1,2]", patch: one("add", "path", `"/`+token+`"`, "value", "3"), code: api.ErrIndex}.holds(t, widest)
		patchCase{document: "[1,2]", patch: one("add", "path", `"/`+token+`/0"`, "value", "3"), code: api.ErrIndex}.holds(t, widest)
	}
	for path, code := range map[string]api.Errno{
		"/b/c": api.ErrTarget, "/n/c": api.ErrTarget, "/n/0": api.ErrTarget, "/n/-": api.ErrTarget, "/s/0": api.ErrTarget, "/s/": api.ErrTarget,
		"/a/1/-": api.ErrTarget, "/a/-/x": api.ErrIndex, "/a/-/-": api.ErrIndex, "/a/0/x": api.ErrTarget, "/a/01/x": api.ErrIndex, "/b/01/x": api.ErrTarget,
	} {
		patchCase{document: `{"a":[true],"n":1,"s":"st"}`, patch: one("add", "path", `"`+path+`"`, "value", "3"), code: code}.holds(t, widest)
	}
	for _, v := range []string{"null", "true", "false", "0", `"a"`, "-1e2"} {
		patchCase{document: v, patch: one("add", "path", `"/0"`, "value", "3"), code: api.ErrTarget}.holds(t, widest)
	}
}

func TestP5RemoveAndReplace(t *testing.T) {
	for _, x := range []patchCase{
		{document: `{"a":1,"b":[2]}`, patch: one("remove", "path", `"/b"`), want: `{"a":1}`},
		{document: `{"a":1}`, patch: one("remove", "path", `"/a"`), want: "{}"},
		{document: `{"":{"":1}}`, patch: one("remove", "path", `"//"`), want: `{"":{}}`},
		{document: `{"~/":1,"~1":2}`, patch: one("remove", "path", `"/~0~1"`), want: `{"~1":2}`},
		{document: "[1,2,3]", patch: one("remove", "path", `"/0"`), want: "[2,3]"},
		{document: "[1,2,3]", patch: one("remove", "path", `"/1"`), want: "[1,3]"},
		{document: "[1,2,3]", patch: one("remove", "path", `"/2"`), want: "[1,2]"},
		{document: "[[1]]", patch: one("remove", "path", `"/0/0"`), want: "[[]]"},
		{document: `{"a":1}`, patch: one("replace", "path", `"/a"`, "value", "null"), want: `{"a":null}`},
		{document: `{"a":null}`, patch: one("replace", "path", `"/a"`, "value", `{"b":[1]}`), want: `{"a":{"b":[1]}}`},
		{document: "[1,[2,3],4]", patch: one("replace", "path", `"/1/0"`, "value", `"x"`), want: `[1,["x",3],4]`},
		{document: "[1,2]", patch: one("replace", "path", `"/1"`, "value", "[]"), want: "[1,[]]"},
		{document: "[1]", patch: one("replace", "path", `""`, "value", "true"), want: "true"},
		{document: "7", patch: one("replace", "path", `""`, "value", `{"a":[7]}`), want: `{"a":[7]}`},
	} {
		x.holds(t, widest)
	}
	patchCase{document: `{"a":1}`, patch: one("remove", "path", `""`), code: api.ErrTarget}.holds(t, widest)
	patchCase{document: "[]", patch: one("remove", "path", `""`), code: api.ErrTarget}.holds(t, widest)
	for path, code := range map[string]api.Errno{
		"/c": api.ErrTarget, "/c/01": api.ErrTarget, "/": api.ErrTarget, "/n/0": api.ErrTarget, "/a/2": api.ErrTarget, "/a/3/x": api.ErrTarget, "/a/-": api.ErrIndex,
		"/a/x": api.ErrIndex, "/a/00": api.ErrIndex, "/a/": api.ErrIndex, "/a/-1": api.ErrIndex, "/a/-/0": api.ErrIndex, "/a/0/0": api.ErrTarget, "/a/18446744073709551616": api.ErrTarget,
	} {
		for _, p := range []string{one("remove", "path", `"`+path+`"`), one("replace", "path", `"`+path+`"`, "value", "9")} {
			patchCase{document: `{"a":[1,2],"n":null}`, patch: p, code: code}.holds(t, widest)
		}
	}
}

func TestP5Move(t *testing.T) {
	for _, x := range []struct{ document, from, path, want string }{
		{`{"a":1}`, "/a", "/b", `{"b":1}`},
		{`{"a":1,"b":2}`, "/a", "/b", `{"b":1}`},
		{`{"a":{"b":1}}`, "/a/b", "/a", `{"a":1}`},
		{`{"a":{"b":{"c":{"d":1}}}}`, "/a/b", "/a", `{"a":{"c":{"d":1}}}`},
		{`{"a":{"b":{"c":2}}}`, "/a/b/c", "/a/b", `{"a":{"b":2}}`},
		{`{"a":{"b":1}}`, "/a/b", "", "1"},
		{`[[[1,2]]]`, "/0/0", "", "[1,2]"},
		{`{"a":[1,2],"b":{}}`, "/a/0", "/b/x", `{"a":[2],"b":{"x":1}}`},
		{`{"a":{"x":1},"aa":{}}`, "/a", "/aa/x", `{"aa":{"x":{"x":1}}}`},
		{`{"a":1,"b":2}`, "/a", "/a~1b", `{"a/b":1,"b":2}`},
		{"[1,2,3]", "/0", "/1", "[2,1,3]"}, {"[1,2,3]", "/0", "/2", "[2,3,1]"}, {"[1,2,3]", "/2", "/0", "[3,1,2]"}, {"[1,2,3]", "/1", "/2", "[1,3,2]"},
		{"[1,2,3]", "/0", "/-", "[2,3,1]"}, {"[1,2,3]", "/2", "/-", "[1,2,3]"}, {"[1]", "/0", "/-", "[1]"},
		// The path is meant behind the removal.
		{"[1,[2],3]", "/0", "/0/0", ""},
		{"[1,[2],3]", "/0", "/0/-", ""},
		{"[1,[2],[3]]", "/0", "/1/0", "[[2],[1,3]]"},
		{"[1,[2],[3]]", "/2", "/1/0", "[1,[[3],2]]"},
		{"[1,[2],[3]]", "/1/0", "/1", "[1,2,[],[3]]"},
		{"[[[1]],2]", "/0/0", "/0", "[[1],[],2]"},
		{`[1,{"a":2}]`, "/0", "/1/b", ""},
		{`{"k":[{"a":1},{"a":2},{"a":3}]}`, "/k/0", "/k/1/b", `{"k":[{"a":2},{"a":3,"b":{"a":1}}]}`},
		{`{"k":[{"a":1},{"a":2},{"a":3}]}`, "/k/1", "/k/0/a", `{"k":[{"a":{"a":2}},{"a":3}]}`},
	} {
		p := one("move", "from", `"`+x.from+`"`, "path", `"`+x.path+`"`)
		switch {
		case x.want != "":
			patches(t, widest, x.document, p, x.want)
		case strings.HasPrefix(x.path, x.from+"/"):
			patchRefused(t, widest, x.document, p, refusedAt(api.ErrMove, 0))
		default:
			patchRefused(t, widest, x.document, p, refusedAt(api.ErrTarget, 0))
		}
	}
	for _, from := range []string{"", "/a", "/a/0", "/a/1", "/~0", "/a/1/k"} {
		document := `{"a":[1,{"k":2}],"~":3}`
		patches(t, widest, document, one("move", "from", `"`+from+`"`, "path", `"`+from+`"`), document)
	}
}

func TestP5MoveRefused(t *testing.T) {
	document := `{"a":[1,[2],{"k":3}],"b":{"a":{"c":4}},"n":null}`
	for _, x := range []struct {
		from, path string
		want       api.Errno
	}{
		{"", "/a", api.ErrMove}, {"", "/x/y", api.ErrMove}, {"", "/", api.ErrMove}, {"/a", "/a/0", api.ErrMove}, {"/a", "/a/-", api.ErrMove}, {"/a", "/a/x/y", api.ErrMove}, {"/a", "/a/", api.ErrMove},
		{"/b/a", "/b/a/c", api.ErrMove}, {"/n", "/n/x", api.ErrMove}, {"/a/1", "/a/1/0", api.ErrMove}, {"/a/1", "/a/1/01", api.ErrMove},
		// What is wrong with from is told first.
		{"/c", "/c/d", api.ErrTarget}, {"/c", "/c", api.ErrTarget}, {"/a/3", "/a/3/0", api.ErrTarget}, {"/a/-", "/a/-/0", api.ErrIndex}, {"/a/-", "/a/-", api.ErrIndex}, {"/a/x", "/n/y", api.ErrIndex},
		{"/c", "/a/x", api.ErrTarget}, {"/a/01", "/c/d", api.ErrIndex}, {"/n/x", "/a/-", api.ErrTarget}, {"/c", "", api.ErrTarget},
		{"/n", "/c/d", api.ErrTarget}, {"/n", "/a/x", api.ErrIndex}, {"/a", "/n/x", api.ErrTarget}, {"/b", "/a/00", api.ErrIndex},
		// The path is meant behind the removal.
		{"/a/0", "/a/3", api.ErrTarget}, {"/a/0", "/a/0/0", api.ErrMove}, {"/a/0", "/a/2/k", api.ErrTarget}, {"/a/2", "/a/2/k", api.ErrMove}, {"/a/1/0", "/a/1/1", api.ErrTarget}, {"/b/a", "/b/x/y", api.ErrTarget},
		{"/a/0", "/a/-/x", api.ErrIndex}, {"/b/a", "/b/a", api.OK},
	} {
		p := one("move", "from", `"`+x.from+`"`, "path", `"`+x.path+`"`)
		if x.want == api.OK {
			patches(t, widest, document, p, document)
			continue
		}
		patchRefused(t, widest, document, p, refusedAt(x.want, 0))
		patchRefused(t, widest, document, "["+operation("replace", "path", `"/n"`, "value", "0")+","+p[1:], refusedAt(x.want, 1))
	}
}

func TestP5Copy(t *testing.T) {
	for _, x := range []struct {
		document, from, path, want string
		code                       api.Errno
	}{
		{`{"a":1}`, "/a", "/b", `{"a":1,"b":1}`, 0}, {`{"a":1,"b":2}`, "/a", "/b", `{"a":1,"b":1}`, 0}, {`{"a":{"b":1}}`, "/a/b", "/a", `{"a":1}`, 0}, {`{"a":{"b":1}}`, "/a/b", "", "1", 0},
		{`{"a":{"b":1}}`, "/a", "/a/c", `{"a":{"b":1,"c":{"b":1}}}`, 0}, {`{"a":{"b":1}}`, "/a", "/a/b", `{"a":{"b":{"b":1}}}`, 0}, {`{"a":1}`, "", "/b", `{"a":1,"b":{"a":1}}`, 0}, {`{"a":1}`, "", "/a", `{"a":{"a":1}}`, 0},
		{`{"a":1}`, "", "", `{"a":1}`, 0}, {`{"a":[2]}`, "/a", "/a", `{"a":[2]}`, 0}, {"[1,2]", "/0", "/0", "[1,1,2]", 0}, {"[1,2]", "/1", "/1", "[1,2,2]", 0}, {"[1,2]", "/0", "/2", "[1,2,1]", 0}, {"[1,2]", "/0", "/-", "[1,2,1]", 0}, {"[1,2]", "/1", "/0", "[2,1,2]", 0},
		{"[[1],2]", "", "/0/0", "[[[[1],2],1],2]", 0}, {"[[1],2]", "/0", "/0/-", "[[1,[1]],2]", 0}, {"[]", "", "/-", "[[]]", 0},
		{"[1,2]", "/0", "/3", "", api.ErrTarget}, {"[1,2]", "/2", "/0", "", api.ErrTarget}, {"[1,2]", "/-", "/0", "", api.ErrIndex}, {"[1,2]", "/2", "/x", "", api.ErrTarget}, {"[1,2]", "/x", "/9", "", api.ErrIndex}, {"[1,2]", "/0", "/x", "", api.ErrIndex},
		{"[1,2]", "/0", "/0/0", "", api.ErrTarget}, {`{"a":1}`, "/b", "/b/c", "", api.ErrTarget}, {`{"a":1}`, "/b", "/b", "", api.ErrTarget}, {`{"a":1}`, "/a", "/b/c", "", api.ErrTarget}, {"7", "", "/a", "", api.ErrTarget},
	} {
		p := one("copy", "path", `"`+x.path+`"`, "from", `"`+x.from+`"`)
		patchCase{x.document, p, x.want, x.code, 0}.holds(t, widest)
	}
}

// What was copied, moved or put in twice does not change together.
func TestP5NothingIsShared(t *testing.T) {
	patches(t, widest, `{"a":{"b":[1]}}`,
		"["+operation("copy", "from", `"/a"`, "path", `"/c"`)+","+operation("add", "path", `"/c/b/-"`, "value", "2")+","+operation("replace", "path", `"/a/b/0"`, "value", "3")+"]",
		`{"a":{"b":[3]},"c":{"b":[1,2]}}`)
	patches(t, widest, `{"a":{"b":1}}`,
		"["+operation("copy", "from", `"/a"`, "path", `"/a/c"`)+","+operation("replace", "path", `"/a/c/b"`, "value", "2")+","+operation("remove", "path", `"/a/b"`)+"]",
		`{"a":{"c":{"b":2}}}`)
	patches(t, widest, `{"a":[1]}`,
		"["+operation("copy", "from", `""`, "path", `"/b"`)+","+operation("add", "path", `"/b/a/0"`, "value", "0")+","+operation("copy", "from", `"/b"`, "path", `""`)+","+operation("add", "path", `"/a/-"`, "value", "2")+"]",
		`{"a":[0,1,2]}`)
	patches(t, widest, `{"a":[1],"b":2}`,
		"["+operation("move", "from", `"/a"`, "path", `"/b"`)+","+operation("add", "path", `"/b/-"`, "value", "3")+","+operation("remove", "path", `"/b/0"`)+","+operation("move", "from", `"/b"`, "path", `""`)+","+operation("add", "path", `"/0"`, "value", "4")+"]",
		"[4,3]")
}

func TestP5Test(t *testing.T) {
	document := `{"a":[1.50,{"k":"\u0041","l":null}],"b":{}}`
	for _, x := range []struct{ path, v string }{
		{"", ` {"b":{},"a":[15e-1,{"l":null,"k":"A"}]}`}, {"/a", `[1.5,{"l":null,"k":"\u0041"}]`}, {"/a/0", "0.15e1"}, {"/a/1/k", `"A"`}, {"/a/1/l", "null"}, {"/b", "{ }"},
	} {
		p := operation("test", "path", `"`+x.path+`"`, "value", x.v)
		patches(t, widest, document, "["+p+"]", document)
		patches(t, widest, document, "["+p+","+operation("add", "path", `"/c"`, "value", "1")+"]", document[:len(document)-1]+`,"c":1}`)
	}
	for _, x := range []struct {
		path, v string
		want    api.Errno
	}{
		{"", "{}", api.ErrTest}, {"/a", "[]", api.ErrTest}, {"/a", `[1.5,{"l":null}]`, api.ErrTest}, {"/a/0", "1.51", api.ErrTest}, {"/a/0", `"1.5"`, api.ErrTest}, {"/a/1/k", `"a"`, api.ErrTest}, {"/a/1/l", "false", api.ErrTest}, {"/b", "[]", api.ErrTest},
		{"/c", "null", api.ErrTarget}, {"/a/2", "null", api.ErrTarget}, {"/a/-", "null", api.ErrIndex}, {"/a/0/0", "null", api.ErrTarget}, {"/a/1/0", "null", api.ErrTarget},
	} {
		p := operation("test", "path", `"`+x.path+`"`, "value", x.v)
		patchRefused(t, widest, document, "["+p+"]", refusedAt(x.want, 0))
		patchRefused(t, widest, document, "["+operation("remove", "path", `"/b"`)+","+operation("add", "path", `"/b"`, "value", "{}")+","+p+"]", refusedAt(x.want, 2))
	}
	patches(t, widest, "[1]", "["+operation("add", "path", `"/0"`, "value", "2")+","+operation("test", "path", `""`, "value", "[2,1]")+","+operation("remove", "path", `"/1"`)+","+operation("test", "path", `""`, "value", "[2]")+"]", "[2]")
}

func TestP5NoPatch(t *testing.T) {
	fine := operation("replace", "path", `""`, "value", "2")
	for _, s := range []string{"null", "true", "1", `"[]"`, "{}", fine, `{"0":` + fine + `}`} {
		patchRefused(t, widest, "1", s, refused(api.ErrPatch))
	}
	for _, s := range []string{
		"null", "false", "7", `"add"`, "[]", "[" + fine + "]", "{}",
		`{"path":"","value":1}`, `{"op":"add","value":1}`, `{"op":"add","path":""}`, `{"op":"replace","path":""}`, `{"op":"test","path":""}`, `{"op":"remove"}`, `{"op":"move","path":""}`, `{"op":"copy","path":""}`, `{"op":"move","from":""}`, `{"op":"copy","from":""}`,
		`{"op":"add","path":"","from":"","Value":1}`, `{"op":"test","path":"","from":""}`, `{"op":"replace","path":"","from":""}`, `{"op":"move","path":"","value":1}`, `{"op":"copy","path":"","value":1}`, `{"op":"remove","from":"","value":""}`,
		`{"op":"","path":"","value":1,"from":""}`, `{"op":"Add","path":"","value":1}`, `{"op":"ADD","path":"","value":1}`, `{"op":"add ","path":"","value":1}`, `{"op":" add","path":"","value":1}`, `{"op":"ad","path":"","value":1}`, `{"op":"adds","path":"","value":1}`, `{"op":"sub","path":"","value":1,"from":""}`, `{"op":"\u0000","path":"","value":1,"from":""}`,
		`{"op":null,"path":"","value":1,"from":""}`, `{"op":true,"path":"","value":1,"from":""}`, `{"op":0,"path":"","value":1,"from":""}`, `{"op":["add"],"path":"","value":1,"from":""}`, `{"op":{"add":1},"path":"","value":1,"from":""}`,
		`{"Op":"remove","path":"/a"}`, `{"op":"remove","Path":"/a"}`, `{"":"remove","path":"/a"}`, `{"OP":"remove","op":"x","path":"/a"}`,
		`{"op":"remove","path":null}`, `{"op":"remove","path":0}`, `{"op":"remove","path":["a"]}`, `{"op":"remove","path":[]}`, `{"op":"remove","path":{}}`, `{"op":"remove","path":true}`,
		`{"op":"remove","path":"a"}`, `{"op":"remove","path":"~"}`, `{"op":"remove","path":"/~"}`, `{"op":"remove","path":"/~2"}`, `{"op":"remove","path":"/a/~/b"}`, `{"op":"remove","path":" "}`, `{"op":"remove","path":"#/a"}`, `{"op":"add","path":"0","value":1}`, `{"op":"test","path":"a/","value":1}`, `{"op":"replace","path":"-","value":1}`,
		`{"op":"move","path":"","from":null}`, `{"op":"move","path":"","from":"a"}`, `{"op":"copy","path":"","from":"/~"}`, `{"op":"copy","path":"","from":[""]}`, `{"op":"copy","path":"","from":0}`, `{"op":"move","path":"x","from":""}`, `{"op":"copy","path":null,"from":""}`, `{"op":"copy","path":"","from":{"":""}}`,
	} {
		patchRefused(t, widest, "1", "["+s+"]", refusedAt(api.ErrPatch, 0))
		// That there is no patch is told ahead of what is wrong on its way; of
		// several elements that are no operations the first one is told.
		patchRefused(t, widest, "1", "["+fine+","+s+"]", refusedAt(api.ErrPatch, 1))
		patchRefused(t, widest, "1", "["+operation("remove", "path", `"/q"`)+","+operation("remove", "path", `""`)+","+s+",null,"+fine+"]", refusedAt(api.ErrPatch, 2))
	}
}

func TestP5MembersOfNoMatter(t *testing.T) {
	for _, s := range []string{
		`{"op":"replace","path":"","value":2,"from":7}`, `{"op":"replace","path":"","value":2,"from":"~"}`, `{"op":"replace","path":"","value":2,"x":[{}],"":null,"Op":"add","PATH":7}`, `{"value":2,"from":"/a","path":"","op":"add"}`, `{"value":2,"from":null,"path":"","op":"add"}`,
		`{"\u006fp":"\u0061dd","\u0070ath":"","value":2,"valu":3,"values":4}`,
	} {
		patches(t, widest, "1", "["+s+"]", "2")
	}
	for _, s := range []string{`"value":5`, `"from":"/b"`, `"from":7,"value":null`, `"from":"b","value":[]`, `"value":1,"from":"/a"`, `"x":0`} {
		patches(t, widest, `{"a":1,"b":3}`, `[{"op":"remove","path":"/a",`+s+`}]`, `{"b":3}`)
	}
	for _, s := range []string{`"value":5`, `"value":{"op":"add"}`, `"x":0`, `"value":null`} {
		patches(t, widest, `{"a":1,"b":3}`, `[{"op":"move","path":"/a","from":"/b",`+s+`}]`, `{"a":3}`)
		patches(t, widest, `{"a":1,"b":3}`, `[{"op":"copy","path":"/a","from":"/b",`+s+`}]`, `{"a":3,"b":3}`)
	}
	for _, s := range []string{`"from":"/b"`, `"from":"x"`, `"from":0`} {
		patches(t, widest, `{"a":1,"b":3}`, `[{"op":"test","path":"/a","value":1,`+s+`}]`, `{"a":1,"b":3}`)
	}
}

func TestP5Reading(t *testing.T) {
	c := api.Config{Depth: 2, Exponent: 2}
	long := strings.Repeat(" ", 1998)
	for _, x := range []struct {
		s    string
		want api.Errno
	}{
		{long + " []", api.ErrLong}, {strings.Repeat("x", 2001), api.ErrLong}, {long + "[7", api.ErrText}, {"", api.ErrText}, {"[", api.ErrText}, {"[{]", api.ErrText}, {`[{"op":"add","op":"add"}`, api.ErrText}, {"[\"\xff\"]", api.ErrText}, {"[,]", api.ErrText},
		{`[{"op":"add","path":"","value":[[[1e3]]],"op":1}]`, api.ErrTwice}, {`[{"op":1,"op":2}]`, api.ErrTwice}, {`{"a":1,"a":2}`, api.ErrTwice}, {`[{"op":"add","path":"","value":{"a":1,"\u0061":2}}]`, api.ErrTwice},
		{`[{"op":"add","path":"","value":[[1e3]]}]`, api.ErrDepth}, {`[{"op":"add","path":"","value":[1e3]}]`, api.ErrNumber}, {"[[[[[]]]]]", api.ErrDepth}, {`[{"x":[[[]]]},7]`, api.ErrDepth},
		{`[{"op":"add","path":"","value":1e3}]`, api.ErrNumber}, {"[0.001]", api.ErrNumber}, {"1e3", api.ErrNumber}, {`[{"x":-1e-3}]`, api.ErrNumber}, {`[{"op":"remove","path":"/a","x":1000}]`, api.ErrNumber},
	} {
		patchRefused(t, c, `{"a":1}`, x.s, refused(x.want))
	}
	expect(t, c, []api.Op{load("1"), patch(long + "[]"), dump, patch(long + "[7"), patch("\t[\n{ \"op\" :\r\"replace\",\"value\": 2 ,\"path\":\"\" } ] "), dump}, told(""), told(""), told("1"), refused(api.ErrText), told(""), told("2"))
	expect(t, c, []api.Op{load("1"), patch("[[[[1]]]]"), patch("[[[[]]]]"), patch("[[[[[]]]]]"), patch(`{"a":{"b":{"c":1}}}`)}, told(""), refused(api.ErrDepth), refused(api.ErrPatch), refused(api.ErrDepth), refused(api.ErrPatch))
}

func TestP5Depth(t *testing.T) {
	c := api.Config{Depth: 3}
	for _, x := range []patchCase{
		{document: "1", patch: one("add", "path", `""`, "value", "[[1]]"), want: "[[1]]"},
		{document: "1", patch: one("replace", "path", `""`, "value", nested(3)), want: nested(3)},
		{document: "1", patch: one("replace", "path", `""`, "value", nested(4)), code: api.ErrDepth},
		{document: "[1]", patch: one("add", "path", `"/0"`, "value", nested(2)), want: "[[[]],1]"},
		{document: "[1]", patch: one("add", "path", `"/0"`, "value", nested(3)), code: api.ErrDepth},
		{document: "[1]", patch: one("add", "path", `"/0"`, "value", "[[1]]"), code: api.ErrDepth},
		{document: "[1]", patch: one("replace", "path", `"/0"`, "value", `{"a":{"b":1}}`), code: api.ErrDepth},
		{document: `{"a":1}`, patch: one("add", "path", `"/b"`, "value", `{"a":{"b":1}}`), code: api.ErrDepth},
		{document: `{"a":{"b":1}}`, patch: one("copy", "from", `""`, "path", `"/c"`), code: api.ErrDepth},
		{document: `{"a":{"b":1}}`, patch: one("copy", "from", `"/a"`, "path", `"/a/b"`), code: api.ErrDepth},
		{document: `{"a":{"b":1}}`, patch: one("copy", "from", `"/a/b"`, "path", `"/c"`), want: `{"a":{"b":1},"c":1}`},
		{document: `[[[]],[]]`, patch: one("move", "from", `"/0"`, "path", `"/0/0"`), code: api.ErrMove},
		{document: `[[1],[2]]`, patch: one("move", "from", `"/1"`, "path", `"/0/0"`), code: api.ErrDepth},
		{document: `[1,[2]]`, patch: one("move", "from", `"/0"`, "path", `"/0/0"`), code: api.ErrMove},
		{document: `[[2],[]]`, patch: one("move", "from", `"/1"`, "path", `"/0/0"`), want: "[[[],2]]"},
		// Behind each operation, not behind the last one alone.
		{document: "[[1]]", patch: "[" + operation("copy", "from", `""`, "path", `"/0/0"`) + "," + operation("remove", "path", `"/0"`) + "]", code: api.ErrDepth},
		{document: "[[1],2]", patch: "[" + operation("remove", "path", `"/1"`) + "," + operation("copy", "from", `""`, "path", `"/-"`) + "," + operation("replace", "path", `""`, "value", "1") + "]", code: api.ErrDepth, at: 1},
		{document: "[[1]]", patch: "[" + operation("replace", "path", `"/0/0"`, "value", "[2]") + "," + operation("remove", "path", `"/x"`) + "]", code: api.ErrDepth},
		{document: "[[1]]", patch: "[" + operation("remove", "path", `"/x"`) + "," + operation("replace", "path", `"/0/0"`, "value", "[2]") + "]", code: api.ErrIndex},
	} {
		x.holds(t, c)
	}
	// What is read too deep is told with no operation, whichever it stands in.
	patchRefused(t, c, "1", "["+operation("test", "path", `""`, "value", "1")+","+operation("test", "path", `""`, "value", nested(4))+"]", refused(api.ErrDepth))
	patchRefused(t, c, "1", "["+operation("test", "path", `""`, "value", "1")+","+operation("test", "path", `""`, "value", nested(3))+"]", refusedAt(api.ErrTest, 1))
	patchRefused(t, c, "1", "["+operation("remove", "path", `""`, "x", nested(3))+"]", refusedAt(api.ErrTarget, 0))
	patchRefused(t, api.Config{Depth: 1}, "1", one("add", "path", `""`, "value", "[1]"), refused(api.ErrDepth))
	patches(t, api.Config{Depth: 1}, "1", one("add", "path", `""`, "value", "[]"), "[]")
	patchRefused(t, api.Config{Depth: 1}, "[]", one("add", "path", `"/-"`, "value", "1"), refusedAt(api.ErrDepth, 0))
}

func TestP5Long(t *testing.T) {
	whole := func(rest int) string {
		return `["` + strings.Repeat("a", 1000) + `","` + strings.Repeat("b", rest) + `"]`
	}
	// 18 more strings of 1000 letters bring 1003 bytes each: 20000 in all.
	expect(t, widest, []api.Op{load(whole(939)), patch(copies(18)), patch(one("replace", "path", `"/1"`, "value", `""`)), patch("[]")}, told(""), told(""), told(""), told(""))
	expect(t, widest, []api.Op{load(whole(939)), patch(copies(18)), patch(one("replace", "path", `"/0"`, "value", `"\"`+strings.Repeat("a", 998)+`"`))}, told(""), told(""), told(""))
	for _, more := range []string{`"\n` + strings.Repeat("a", 995) + `"`, `"` + strings.Repeat("a", 1001) + `"`, `"é` + strings.Repeat("a", 999) + `"`} {
		expect(t, widest, []api.Op{load(whole(939)), patch(copies(18)), patch(one("replace", "path", `"/0"`, "value", more)), get("/0")}, told(""), told(""), refusedAt(api.ErrLong, 0), told(whole(0)[1:1003]))
	}
	patchRefused(t, widest, whole(940), copies(18), refusedAt(api.ErrLong, 17))
	patchRefused(t, widest, whole(1), "["+copying(19)+","+operation("replace", "path", `""`, "value", "1")+"]", refusedAt(api.ErrLong, 18))
	patchRefused(t, widest, whole(1), "["+copying(19)+","+operation("remove", "path", `"/x"`)+"]", refusedAt(api.ErrLong, 18))
	patchRefused(t, widest, whole(1), "["+copying(18)+","+operation("remove", "path", `"/x"`)+"]", refusedAt(api.ErrIndex, 18))
	// Where both are so, that it is too deep is told.
	expect(t, api.Config{Depth: 2}, []api.Op{load(whole(939)), patch(copies(18)), patch(one("copy", "from", `""`, "path", `"/0"`)), patch(one("copy", "from", `"/0"`, "path", `"/0"`))}, told(""), told(""), refusedAt(api.ErrDepth, 0), refusedAt(api.ErrLong, 0))
}

func TestP5WhollyOrNotAtAll(t *testing.T) {
	document := `{"a":[1,2,{"k":[3]}],"b":{"c":null},"d":"x"}`
	fine := []string{
		operation("add", "path", `"/a/0"`, "value", "[]"), operation("add", "path", `"/a/0/-"`, "value", "5"), operation("remove", "path", `"/a/1"`), operation("move", "from", `"/a/2/k"`, "path", `"/b/c"`),
		operation("copy", "from", `"/b"`, "path", `"/b/c/0"`), operation("replace", "path", `"/b/c/0/c"`, "value", "{}"), operation("move", "from", `"/b"`, "path", `"/a/-"`), operation("remove", "path", `"/d"`),
		operation("move", "from", `"/a"`, "path", `""`), operation("replace", "path", `"/1"`, "value", `{"e":[]}`), operation("add", "path", `""`, "value", `{"a":1}`), operation("add", "path", `"/a"`, "value", `2`),
	}
	bad := []struct {
		operation string
		want      api.Errno
	}{
		{operation("remove", "path", `""`), api.ErrTarget}, {operation("move", "from", `""`, "path", `"/x"`), api.ErrMove}, {operation("test", "path", `""`, "value", "0"), api.ErrTest},
	}
	for i := range len(fine) + 1 {
		for _, b := range bad {
			all := append(append(append([]string{}, fine[:i]...), b.operation), fine[i:]...)
			patchRefused(t, widest, document, "["+strings.Join(all, ",")+"]", refusedAt(b.want, i))
		}
		if i > 0 {
			patches(t, widest, document, "["+strings.Join(fine[:i], ",")+"]", oneByOne(document, fine[:i]))
		}
	}
	patches(t, widest, document, "["+strings.Join(fine, ",")+"]", `{"a":2}`)
	patches(t, widest, document, "["+strings.Join(fine[:8], ",")+"]", `{"a":[[5],2,{},{"c":[{"c":{}},3]}]}`)
	patches(t, widest, document, "[]", document)
}

// oneByOne is what becomes of a document by operations, each as a patch.
func oneByOne(document string, operations []string) string {
	script := []api.Op{load(document)}
	for _, o := range operations {
		script = append(script, patch("["+o+"]"))
	}
	return lastDump(script)
}

// lastDump is what DUMP tells behind a script.
func lastDump(script []api.Op) string {
	return amend.Run(widest, append(script, dump))[len(script)].Text
}

func TestP5ManyPatches(t *testing.T) {
	script := []api.Op{load("[]")}
	want := []string{}
	for i := range 300 {
		n := strconv.Itoa(i%7 + 1)
		script = append(script, patch(one("add", "path", `"/-"`, "value", n)), patch("["+operation("remove", "path", `"/0"`)+","+operation("remove", "path", `"/x"`)+"]"))
		want = append(want, n)
	}
	if got := lastDump(script); got != "["+strings.Join(want, ",")+"]" {
		t.Errorf("got %s", got)
	}
}

func TestP5ConfigAhead(t *testing.T) {
	no := refused(api.ErrConfig)
	expect(t, api.Config{Depth: 0}, []api.Op{load("1"), patch("[]"), patch("["), invert}, no, no, no, no)
}
