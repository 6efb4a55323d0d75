package amend_test

import (
	"strings"
	"testing"

	"amend/api"
)

const sample = `{"b":1.50,"a":[1e1,-0.0,"\u0041\n"],"":{"":[{"":3}]},"~":4,"/":5,"~1":6,"a/b~c":7,"é😀":8,"\u0000":9,"0":{"01":[true,{"-":null}]}}`

func get(s string) api.Op { return api.Op{Kind: api.Get, S: s} }

func test(s, t string) api.Op { return api.Op{Kind: api.Test, S: s, T: t} }

// gets tells what GET answers, and that it changes nothing.
func gets(t *testing.T, document, s string, want api.Answer) {
	t.Helper()
	expect(t, widest,
		[]api.Op{get(s), load(document), get(s), get(""), get(s)},
		refused(api.ErrNone), told(""), want, told(canonical(t, document)), want)
}

// tests tells what TEST answers, and that it changes nothing.
func tests(t *testing.T, c api.Config, document, s, v string, want api.Errno) {
	t.Helper()
	expect(t, c,
		[]api.Op{test(s, v), load(document), test(s, v), dump, test(s, v)},
		refused(api.ErrNone), told(""), refused(want), told(canonical(t, document)), refused(want))
}

func TestP4Examples(t *testing.T) {
	document := `{"b":1.50,"a":[1e1,-0.0,"\u0041\n"]}`
	gets(t, document, "/a/2", told(`"A\u000a"`))
	for _, s := range []string{"/a/3", "/c", "/b/x"} {
		gets(t, document, s, refused(api.ErrTarget))
	}
	for _, s := range []string{"/a/01", "/a/-", "/a/x"} {
		gets(t, document, s, refused(api.ErrIndex))
	}
	for _, s := range []string{"a", "/~2"} {
		gets(t, document, s, refused(api.ErrPointer))
	}
	tests(t, widest, document, "/b", "1.5", api.OK)
	tests(t, widest, document, "/b", "2", api.ErrTest)
}

func TestP4Get(t *testing.T) {
	for s, want := range map[string]string{
		"/b": "15e-1", "/a": `[1e1,0,"A\u000a"]`, "/a/0": "1e1", "/a/1": "0", "/": `{"":[{"":3}]}`, "//": `[{"":3}]`, "///0": `{"":3}`, "///0/": "3",
		"/~0": "4", "/~1": "5", "/~01": "6", "/a~1b~0c": "7", "/é😀": "8", "/\x00": "9", "/0": `{"01":[true,{"-":null}]}`, "/0/01": `[true,{"-":null}]`,
		"/0/01/0": "true", "/0/01/1/-": "null",
	} {
		gets(t, sample, s, told(want))
	}
	for _, s := range []string{"null", "true", "false", "0", "-12e-3", `""`, `"a"`, "[]", "{}", "[[]]", `{"a":{}}`} {
		gets(t, s, "", told(s))
	}
}

func TestP4GetElements(t *testing.T) {
	document := "[" + strings.Repeat("0,", 10) + "1,2,[3]]"
	gets(t, document, "/10", told("1"))
	gets(t, document, "/11", told("2"))
	gets(t, document, "/12/0", told("3"))
	gets(t, document, "/9", told("0"))
	gets(t, document, "/13", refused(api.ErrTarget))
	gets(t, document, "/12/1", refused(api.ErrTarget))
	gets(t, "[]", "/0", refused(api.ErrTarget))
	gets(t, "[[]]", "/0/0", refused(api.ErrTarget))
}

func TestP4NoPointer(t *testing.T) {
	for _, s := range []string{
		"a", "b", " ", " /a", "a/0", "#", "#/a", "~", "~0", "~1a", "0", "-", "\x00", "\xff", "\\/a",
		"/~", "/~2", "/~a", "/a~", "/~~", "/~~0", "/~0~", "/~/", "/a~/b", "/~/0", "//~", "/a/~", "/~00~9", "/~é", "/~ 0", "/~\x00", "/~-1",
		"/\xff", "/\x80", "/a/\xc3", "/\xc3/\xa9", "/\xc3~0", "/\xc0\xaf", "/\xc1\xbf", "/\xe0\x80\xaf", "/\xe0\x9f\xbf", "/\xf0\x8f\xbf\xbf",
		"/\xed\xa0\x80", "/\xed\xbf\xbf", "/\xed\xa0\xbd\xed\xb8\x80", "/\xf4\x90\x80\x80", "/\xf8\x88\x80\x80\x80", "/\xe2\x82", "/ab\xf0\x9f\x98",
	} {
		gets(t, sample, s, refused(api.ErrPointer))
		// That it is no pointer is told ahead of what is wrong on its way.
		gets(t, "7", "/x"+"/y/"+s+"~", refused(api.ErrPointer))
	}
}

func TestP4NoTarget(t *testing.T) {
	for _, s := range []string{
		"/c", "/B", "/b ", "/aa", "/a~1b", "/~00", "/~0~0", "/~1~1", "/~10", "/~001", "/e\u0301", "/1", "/-", "/a~0b~1c", "//0", "///0/x", "///0//", "///1",
		"/b/", "/b/x", "/b/0", "/b/-", "/b/01", "/b//", "/a/3", "/a/3/x", "/a/2/0", "/a/2/A", "/a/2/", "/a/2/-", "/a/0/0", "/0/01/0/0", "/0/01/1/-/-",
		"/c/0", "/c/01", "/c/d/e", "/0/1", "/0/01/2",
		"/a/10", "/a/4294967296", "/a/4294967297", "/a/9223372036854775807", "/a/9223372036854775808", "/a/18446744073709551616", "/a/18446744073709551617",
		"/a/340282366920938463463374607431768211456", "/a/1" + strings.Repeat("0", 5000), "/a/9" + strings.Repeat("9", 5000) + "/x",
	} {
		gets(t, sample, s, refused(api.ErrTarget))
	}
	for _, s := range []string{"null", "true", "false", "0", `"a"`, `"0"`, "{}", "[]"} {
		gets(t, s, "/0", refused(api.ErrTarget))
		gets(t, s, "/0/x", refused(api.ErrTarget))
	}
	for _, s := range []string{"null", "true", "false", "0", `"a"`, "{}"} {
		for _, path := range []string{"/", "/-", "/01", "/a"} {
			gets(t, s, path, refused(api.ErrTarget))
		}
	}
}

func TestP4NoIndex(t *testing.T) {
	for _, token := range []string{
		"", "-", "x", "01", "00", "000", "-0", "-1", "+0", "+1", " 0", "0 ", "1 ", "1\n", "0x0", "0x1", "1e0", "1.0", "1_0", "0_1", "0a", "a0", "0a0",
		"~01", "~10", "٠", "１", "1\u00a0", "\x000", "--", "length", "0" + strings.Repeat("1", 5000), strings.Repeat("9", 5000) + "x",
	} {
		gets(t, "[1,2,[3]]", "/"+token, refused(api.ErrIndex))
		gets(t, "[1,2,[3]]", "/"+token+"/0", refused(api.ErrIndex))
		gets(t, "[1,2,[3]]", "/2/"+token, refused(api.ErrIndex))
		gets(t, "[]", "/"+token, refused(api.ErrIndex))
	}
}

func TestP4FirstErrorOfTheWay(t *testing.T) {
	for s, want := range map[string]api.Errno{
		"/0/01": api.ErrIndex, "/7/01": api.ErrTarget, "/01/7": api.ErrIndex, "/1/x/01": api.ErrTarget, "/1/a/x": api.ErrTarget, "/x/a/x": api.ErrIndex,
	} {
		gets(t, `[[],{"a":1}]`, s, refused(want))
	}
}

func TestP4TestSame(t *testing.T) {
	for _, same := range [][]string{
		{"1.5", "15e-1", "0.15e1", "1.500", "150E-02", "15000e-4"},
		{"0", "-0", "0.0", "-0.000", "0e300", "0e-999999"},
		{"-100", "-1e2", "-1E+2", "-100.00", "-0.1e3"},
		{"1e400", "10e399", "0.01e402"},
		{`"A\u000a\/"`, `"\u0041\n/"`, `"A\n\u002f"`, `"A\u000A/"`},
		{`"😀é"`, `"\ud83d\ude00\u00e9"`, `"\uD83D\uDE00é"`},
		{`"\b\f\t\r\"\\"`, `"\u0008\u000c\u0009\u000d\u0022\u005c"`},
		{`{"a":1,"b":[2,{"c":3,"d":4}]}`, `{"b":[2,{"d":4,"c":3}],"a":1}`, ` { "\u0062" : [ 2.0 , {"d":0.4e1,"c":3} ] , "a":1 } `},
		{"[1,2,[]]", " [1, 2.0, [\n] ]\r\t"},
		{"{}", "{ }"}, {"[]", "[ ]"}, {"null", " null"}, {"true", "true "}, {"false", "\nfalse"},
	} {
		for _, a := range same {
			for _, b := range same {
				tests(t, widest, a, "", b, api.OK)
				tests(t, widest, "["+a+"]", "/0", b, api.OK)
				tests(t, widest, `{"k":`+a+`}`, "", `{"k":`+b+`}`, api.OK)
			}
		}
	}
}

func TestP4TestDifferent(t *testing.T) {
	values := []string{
		"null", "true", "false", "0", "1", "-1", "10", "1e-1", "12", "21", "1e400", "1e-400", `""`, `"0"`, `"1"`, `"null"`, `"a"`, `"A"`, `"é"`, `"e\u0301"`,
		"[]", "[[]]", "[{}]", "[null]", "[0]", "[1]", "[1,2]", "[2,1]", "[1,2,3]", "[1,1,2]", "[1,2,2]", "[[1,2]]", "[[1],2]",
		"{}", `{"a":null}`, `{"b":null}`, `{"a":1}`, `{"b":1}`, `{"a":1,"b":2}`, `{"a":2,"b":1}`, `{"a":1,"c":2}`, `{"a":1,"b":null}`, `{"a":[1]}`, `{"a":{}}`, `{"":1}`,
		"123456789012345678901234567890", "123456789012345678901234567891", "0.1234567890123456789", "0.1234567890123456788",
	}
	for i, a := range values {
		for j, b := range values {
			want := api.ErrTest
			if i == j {
				want = api.OK
			}
			tests(t, widest, a, "", b, want)
			tests(t, widest, "["+a+"]", "/0", b, want)
			tests(t, widest, "["+a+"]", "", "["+b+"]", want)
			tests(t, widest, `{"k":`+a+`}`, "", `{"k":`+b+`}`, want)
		}
	}
}

func TestP4TestErrorsInOrder(t *testing.T) {
	c := api.Config{Depth: 3, Exponent: 2}
	document := `{"a":[1],"b":2}`
	long := strings.Repeat(" ", 2000) + "1"
	faults := []struct {
		v    string
		want api.Errno
	}{
		{long, api.ErrLong}, {"[" + long, api.ErrLong}, {"", api.ErrText}, {"[", api.ErrText}, {`{"a":1,"a":[[[1e3]]]`, api.ErrText}, {"nul", api.ErrText}, {"\"\xff\"", api.ErrText},
		{`{"a":1,"a":[[[1e3]]]}`, api.ErrTwice}, {"[[[[1e3]]]]", api.ErrDepth}, {"[[[1]]]", api.ErrDepth}, {"[1e3]", api.ErrNumber}, {"0.001", api.ErrNumber},
	}
	for _, f := range faults {
		for _, s := range []string{"", "/b", "/c", "/a/x", "/a/1", "/b/0"} {
			tests(t, c, document, s, f.v, f.want)
		}
		for _, s := range []string{"b", "/~", "/c/~2", "/\xff", "/a/x~"} {
			tests(t, c, document, s, f.v, api.ErrPointer)
		}
	}
	for s, want := range map[string]api.Errno{"/c": api.ErrTarget, "/a/x": api.ErrIndex, "/a/1": api.ErrTarget, "/b/0": api.ErrTarget, "x": api.ErrPointer, "/a/0": api.OK, "/b": api.ErrTest, "": api.ErrTest} {
		tests(t, c, document, s, "1", want)
	}
	tests(t, c, document, "", `{"b":2,"a":[1]}`, api.OK)
	tests(t, c, document, "/b", "[[]]", api.ErrTest)
}

func TestP4TakesWhatIsLoadedNow(t *testing.T) {
	expect(t, widest,
		[]api.Op{load(`{"a":1}`), get("/a"), load("[2]"), get("/a"), get("/0"), load("["), get("/0"), test("/0", "2"), load("3"), test("", "2"), test("", "3")},
		told(""), told("1"), told(""), refused(api.ErrIndex), told("2"), refused(api.ErrText), told("2"), told(""), told(""), refused(api.ErrTest), told(""))
}

func TestP4UnnamedFields(t *testing.T) {
	expect(t, widest, []api.Op{load("[1]"), {Kind: api.Get, S: "/0", T: "["}, {Kind: api.Get, S: "", T: "\xff"}}, told(""), told("1"), told("[1]"))
}

func TestP4ConfigAhead(t *testing.T) {
	no := refused(api.ErrConfig)
	expect(t, api.Config{Depth: 21}, []api.Op{load("1"), get(""), get("x"), test("", "1"), test("x", "[")}, no, no, no, no, no)
}

// A pointer is no text that is read: MaxText does not bound it.
func TestP4LongPointers(t *testing.T) {
	key := strings.Repeat("k", 990)
	gets(t, `{"`+key+`":{"`+key+`":5}}`, "/"+key+"/"+key, told("5"))
	gets(t, `{"`+strings.Repeat("~", 1900)+`":5}`, "/"+strings.Repeat("~0", 1900), told("5"))
	gets(t, `{"a":5}`, strings.Repeat("/a", 5000), refused(api.ErrTarget))
	gets(t, `{"a":5}`, strings.Repeat("/a", 5000)+"/~", refused(api.ErrPointer))
}
