package text_test

import (
	"encoding/json"
	"math/big"
	"math/rand"
	"strings"
	"testing"
	"unicode/utf8"

	"amend/api"
	"amend/text"
)

// P3: what these tests hold of a text holds of every LOAD and DUMP.

func canonical(t *testing.T, s string) string {
	t.Helper()
	v, code := text.Read(s, 20, 400)
	if code != api.OK {
		t.Fatalf("%.60q: code %d", s, code)
	}
	return text.Canonical(v)
}

func TestCanonicalStrings(t *testing.T) {
	for s, want := range map[string]string{
		`""`:                           `""`,
		`"\"\\\/\b\f\n\r\t"`:           `"\"\\/\u0008\u000c\u000a\u000d\u0009"`,
		`"\u0000\u001F\u0020\u007f"`:   "\"\\u0000\\u001f \u007f\"",
		`"\u0022\u005C\u002f"`:         `"\"\\/"`,
		`"\u00e9\u00E9é"`:              `"ééé"`,
		`"\ud800\udc00\uDBFF\uDFFF"`:   "\"\U00010000\U0010ffff\"",
		`"\uD83d\uDe00😀"`:              `"😀😀"`,
		`"\ud7ff\ue000\ufffe\ufffd"`:   "\"\ud7ff\ue000\ufffe\ufffd\"",
		"\"\ufffd\ufeff\u2028\u0080\"": "\"\ufffd\ufeff\u2028\u0080\"",
		`"\\u0041\\n"`:                 `"\\u0041\\n"`,
		`"/"`:                          `"/"`,
	} {
		if got := canonical(t, s); got != want {
			t.Errorf("%s: got %s, want %s", s, got, want)
		}
	}
}

func TestEscapesBelowBlank(t *testing.T) {
	const digits = "0123456789abcdef"
	for c := range 0x20 {
		s := `"\u00` + string(digits[c>>4]) + string(digits[c&15]) + `"`
		if got := canonical(t, s); got != s {
			t.Errorf("%s: got %s", s, got)
		}
		if _, code := text.Read(`"`+string(rune(c))+`"`, 20, 400); code != api.ErrText {
			t.Errorf("byte %d stood in a string: code %d", c, code)
		}
	}
}

func TestCanonicalNumbers(t *testing.T) {
	for s, want := range map[string]string{
		"0": "0", "-0": "0", "0.0": "0", "-0.00e-5": "0", "0E+0": "0", "7": "7", "-7": "-7", "70": "7e1", "-700": "-7e2", "7.0": "7",
		"7.10": "71e-1", "0.0070": "7e-3", "-0.0070e3": "-7", "10.01": "1001e-2", "1e0": "1", "1E-0": "1", "1e+007": "1e7", "1e-007": "1e-7",
		"100e-2": "1", "12e-1": "12e-1", "1234567890123456789012345678901234567890": "123456789012345678901234567890123456789e1",
		"0.1e401": "1e400", "10e399": "1e400", "1e-400": "1e-400", "1000e-403": "1e-400", "0e99999999999999999999": "0",
		"0." + strings.Repeat("0", 1500) + "1e1501":     "1",
		"1" + strings.Repeat("0", 1500) + "e-1500":      "1",
		"1" + strings.Repeat("0", 1500) + "e-1900":      "1e-400",
		"-0." + strings.Repeat("0", 1500) + "250e1901":  "-25e399",
		"1" + strings.Repeat("0", 400):                  "1e400",
		"9" + strings.Repeat("9", 1999):                 strings.Repeat("9", 2000),
		"1e" + strings.Repeat("0", 1000) + "5":          "1e5",
		"0." + strings.Repeat("0", 1900) + "e123456789": "0",
	} {
		if got := canonical(t, s); got != want {
			t.Errorf("%.60s: got %.60s, want %.60s", s, got, want)
		}
	}
}

func TestBlanks(t *testing.T) {
	const b = " \t\n\r"
	spread := strings.Join([]string{"", "[", "1", ",", "{", `"a"`, ":", "null", ",", `"b"`, ":", "[", "]", "}", ",", "{", "}", "]", ""}, b)
	if got := canonical(t, spread); got != `[1,{"a":null,"b":[]},{}]` {
		t.Errorf("got %s", got)
	}
	for _, s := range []string{"\v1", "1\f", "\u00a01", "1\u2028", "[\u00851]", "\ufeff1", "- 1", "1 .5", "1. 5", "1 e5", "1e 5", "nu ll", `"\ n"`, `"\u 0041"`, "1\x00", "\x001"} {
		if _, code := text.Read(s, 20, 400); code != api.ErrText {
			t.Errorf("%q: code %d, want %d", s, code, api.ErrText)
		}
	}
}

func TestNoText(t *testing.T) {
	for _, s := range []string{
		"", " ", "n", "nul", "nulL", "NULL", "nulls", "tru", "truefalse", "false0", "undefined", "NaN", "Infinity", "-Infinity",
		"-", "+1", "--1", "01", "-01", "00", "1.", "-.5", ".5", "1.e1", "1e", "1E+", "1e-", "1e1.5", "1e1e1", "1.2.3", "0x10", "1_0", "1a", "٣",
		`"`, `"a`, `"\`, `"\"`, `'a'`, `"\a"`, `"\v"`, `"\0"`, `"\N"`, `"\U0041"`, `"\x41"`, `"\u"`, `"\u004"`, `"\u004g"`, `"\u00:0"`, `"\u00/0"`, `"\u+041"`, `"\u004` + "\x11" + `"`,
		`"\ud800"`, `"\udbff"`, `"\udc00"`, `"\udfff"`, `"\ud800\ud800"`, `"\ud800\ue000"`, `"\ud800\udbff"`, `"\udc00\ud800"`, `"\ud800 \udc00"`, `"\ud800\n"`, `"\ud800udc00"`, `"\ud800\udc0"`, `"\ud800\`, `"\ud800\u`, `"\ud800\Udc00"`,
		"\"\x80\"", "\"\xff\"", "\"\xc0\xaf\"", "\"\xc1\xbf\"", "\"\xe0\x80\xaf\"", "\"\xed\xa0\x80\"", "\"\xed\xbf\xbf\"", "\"\xf0\x80\x80\xaf\"", "\"\xf4\x90\x80\x80\"", "\"\xf8\x88\x80\x80\x80\"", "\"\xc3\"", "\"\xe2\x82\"", "\"\xf0\x9f\x98\"", "\"\xc3", "\xc3\xa9",
		"[", "]", "[1", "[1,", "[,", "[,]", "[1,]", "[,1]", "[1,,2]", "[1 2]", "[1;2]", "[1}", "[[]", "[]]", "[1]2", "[] []",
		"{", "}", "{]", "{,}", `{"a"}`, `{"a":}`, `{"a":1`, `{"a":1,`, `{"a":1,}`, `{,"a":1}`, `{"a":1,,"b":2}`, `{"a" 1}`, `{"a"::1}`, `{"a":1 "b":2}`, `{"a":1;"b":2}`, `{"a",1}`, "{a:1}", "{1:1}", "{null:1}", `{["a"]:1}`, `{:1}`, `{"a":1]`, "{}{}", "{}}",
		"//1", "1//", "/**/1", "#1", ",", ":", "1,2", "1 2", strings.Repeat("[", 2000), strings.Repeat(`{"a":`, 400),
	} {
		v, code := text.Read(s, 20, 400)
		if code != api.ErrText || v != nil {
			t.Errorf("%.60q: code %d and %v, want %d and nothing", s, code, v, api.ErrText)
		}
	}
}

func TestRefusedIsNothing(t *testing.T) {
	for _, s := range []string{strings.Repeat(" ", 2001), "[", `{"a":1,"a":1}`, "[[1]]", "1e9"} {
		if v, code := text.Read(s, 1, 1); v != nil || code == api.OK {
			t.Errorf("%.60q: %v beside code %d", s, v, code)
		}
	}
}

func TestRandomNumbers(t *testing.T) {
	random := rand.New(rand.NewSource(1))
	digits := func(n int) string {
		b := make([]byte, n)
		for i := range b {
			b[i] = "000123456789"[random.Intn(12)]
		}
		return string(b)
	}
	for range 5000 {
		s := []string{"", "-"}[random.Intn(2)] + strings.TrimLeft(digits(random.Intn(6)), "0")
		if s == "" || s == "-" {
			s += "0"
		}
		if random.Intn(2) == 0 {
			s += "." + digits(1+random.Intn(6))
		}
		if random.Intn(2) == 0 {
			s += []string{"e", "E", "e+", "E-", "e-"}[random.Intn(5)] + digits(1+random.Intn(2))
		}
		got := canonical(t, s)
		want, ok1 := new(big.Rat).SetString(s)
		is, ok2 := new(big.Rat).SetString(got)
		if !ok1 || !ok2 || want.Cmp(is) != 0 {
			t.Fatalf("%s became %s", s, got)
		}
		whole, _, _ := strings.Cut(got, "e")
		if got != "0" && strings.HasSuffix(whole, "0") || strings.ContainsAny(got, ".E+") || strings.HasSuffix(got, "e0") {
			t.Fatalf("%s became %s, which is not canonical", s, got)
		}
	}
}

// hasLoneSurrogate tells of the one thing that encoding/json lets pass, UTF-8 aside.
func hasLoneSurrogate(s string) bool {
	var units []int
	for i := 0; i < len(s); i++ {
		if s[i] != '\\' {
			units = append(units, 0)
			continue
		}
		i++
		unit := 0
		if s[i] == 'u' {
			var n, _ = new(big.Int).SetString(s[i+1:i+5], 16)
			unit = int(n.Int64())
			i += 4
		}
		units = append(units, unit)
	}
	for i := 0; i < len(units); i++ {
		if units[i] < 0xD800 || units[i] > 0xDFFF {
			continue
		}
		if units[i] > 0xDBFF || i+1 == len(units) || units[i+1] < 0xDC00 || units[i+1] > 0xDFFF {
			return true
		}
		i++
	}
	return false
}

func TestMutatedTexts(t *testing.T) {
	random := rand.New(rand.NewSource(2))
	seeds := []string{
		`{"a":[1,-2.50e+3,"x\u00e9\n"],"b":{"c":null,"d":true}, "e" : false }`, `["\ud83d\ude00","\"\\\/\b\f\r\t",0.1,1E-5,[],{}]`,
		` [ [ [ 0 ] , -0 ] , { "é" : "😀" } ] `, `"\uDBFF\uDFFF\u0000"`, "-12.5e-3", "null",
	}
	const pieces = "{}[]\",:.\\-+eEu0123456789abdfnrtDC \n\t\x00\x1f\xc3\xa9\xff"
	var texts, others int
	for range 200000 {
		s := []byte(seeds[random.Intn(len(seeds))])
		for range 1 + random.Intn(3) {
			if len(s) == 0 {
				break
			}
			i := random.Intn(len(s))
			switch random.Intn(4) {
			case 0:
				s = append(s[:i], s[i+1:]...)
			case 1:
				s[i] = pieces[random.Intn(len(pieces))]
			case 2:
				s = append(s[:i], append([]byte{pieces[random.Intn(len(pieces))]}, s[i:]...)...)
			case 3:
				s = s[:i]
			}
		}
		want := json.Valid(s) && utf8.Valid(s) && !hasLoneSurrogate(string(s))
		v, code := text.Read(string(s), 20, 400)
		if (code != api.ErrText) != want {
			t.Fatalf("%q: code %d; is it a text: %v", s, code, want)
		}
		if want {
			texts++
		} else {
			others++
		}
		if code == api.OK {
			once := text.Canonical(v)
			if !json.Valid([]byte(once)) || canonical(t, once) != once {
				t.Fatalf("%q became %q, which is not canonical", s, once)
			}
		}
	}
	if texts < 1000 || others < 1000 {
		t.Errorf("%d texts and %d others are too few to tell", texts, others)
	}
}
