package request_test

import (
	"math"
	"math/rand"
	"slices"
	"strconv"
	"strings"
	"testing"

	"footman/api"
	"footman/request"
)

const (
	small   = "abcdefghijklmnopqrstuvwxyz"
	great   = "ABCDEFGHIJKLMNOPQRSTUVWXYZ"
	tens    = "0123456789"
	signs   = "!#$%&'*+-.^_`|~"
	ofNames = small + tens + signs
	longest = 64
	most    = 999999999
)

// colons are the names that begin with a colon and may stand in a request.
var colons = []string{":method", ":scheme", ":path", ":authority"}

// ofConnection are the five names that may not stand anywhere.
var ofConnection = []string{"connection", "keep-alive", "proxy-connection", "transfer-encoding", "upgrade"}

// notUTF8 are texts that are no UTF-8, or whose bytes are those of letters that are not ASCII's, some of which have a small or a great letter that is.
var notUTF8 = []string{
	"\xff", "\xfe", "\xc3", "\xc3\x28", "\x80", "\xbf", "\xe2\x82", "\xf0\x9f\x98", "\xc0\xaf", "\xed\xa0\x80", "\xef\xbf\xbd",
	"\u00e9", "\u00c9", "\u212a", "\u017f", "\u0130", "\u0131", "\uff41", "\uff21", "\u0430", "\u0661", "\uff11", "\u00a0", "\u2028", "\u0085",
}

func field(name, value string) api.Field { return api.Field{Name: name, Value: value} }

// get is the least request: its scheme is https.
func get() []api.Field { return asking("GET", "https", "/") }

func asking(method, scheme, path string) []api.Field {
	return []api.Field{field(":method", method), field(":scheme", scheme), field(":path", path)}
}

// plain is what get asks.
func plain() request.Request {
	return request.Request{Method: "GET", Scheme: "https", Path: "/", Length: -1, Rank: 3}
}

func with(l []api.Field, more ...api.Field) []api.Field { return slices.Concat(l, more) }

func putAt(l []api.Field, at int, more ...api.Field) []api.Field {
	return slices.Insert(slices.Clone(l), at, more...)
}

func without(l []api.Field, name string) []api.Field {
	return slices.DeleteFunc(slices.Clone(l), func(f api.Field) bool { return f.Name == name })
}

// put is a list with another value for each field of a name.
func put(l []api.Field, name, value string) []api.Field {
	l = slices.Clone(l)
	for i := range l {
		if l[i].Name == name {
			l[i].Value = value
		}
	}
	return l
}

// valuesOf are the values of a name's fields, in order.
func valuesOf(l []api.Field, name string) []string {
	var values []string
	for _, f := range l {
		if f.Name == name {
			values = append(values, f.Value)
		}
	}
	return values
}

func show(l []api.Field) string {
	s := strconv.Itoa(len(l)) + "["
	for _, f := range l[:min(len(l), 12)] {
		s += " " + strconv.Quote(f.Name) + "=" + strconv.Quote(f.Value)
	}
	return s + " ]"
}

// modelName: nothing is left of a right name behind the bytes that may stand there.
func modelName(s, may string) bool {
	return len(s) >= 1 && len(s) <= longest && strings.Trim(s, may) == ""
}

func modelValue(s string) bool {
	for i, c := range []byte(s) {
		isEnd := i == 0 || i == len(s)-1
		if c == 0x00 || c == 0x0a || c == 0x0d || isEnd && (c == 0x20 || c == 0x09) {
			return false
		}
	}
	return true
}

// modelNumber: a number is told just as its digits are told back.
func modelNumber(s string) (int, bool) {
	n, err := strconv.Atoi(s)
	if err != nil || n < 0 || n > most || strconv.Itoa(n) != s {
		return 0, false
	}
	return n, true
}

func modelRank(s string) int {
	for n := range 8 {
		told := "u=" + strconv.Itoa(n)
		if s == told || strings.HasPrefix(s, told+",") {
			return n
		}
	}
	return 3
}

// colonFault tells what the chapter refuses of the fields with a colon, one by one; nothing, if there is nothing.
func colonFault(l []api.Field) string {
	behind := false
	for _, f := range l {
		isColon := strings.HasPrefix(f.Name, ":")
		switch {
		case isColon && behind:
			return "a colon behind another"
		case isColon && !slices.Contains(colons, f.Name):
			return "another name with a colon"
		}
		behind = behind || !isColon
	}
	for _, name := range colons {
		n := len(valuesOf(l, name))
		if n > 1 || n == 0 && name != ":authority" {
			return strconv.Itoa(n) + " of " + name
		}
	}
	method, scheme, path := valuesOf(l, ":method")[0], valuesOf(l, ":scheme")[0], valuesOf(l, ":path")[0]
	switch {
	case !modelName(method, ofNames+great):
		return "the method"
	case scheme != "http" && scheme != "https":
		return "the scheme"
	case path == "*" && method != "OPTIONS":
		return "the star"
	case path != "*" && !strings.HasPrefix(path, "/"):
		return "the path"
	}
	return ""
}

// plainFault tells what the chapter refuses of names and values, in trailers too; names with a colon have their own words.
func plainFault(l []api.Field) string {
	for _, f := range l {
		switch {
		case !strings.HasPrefix(f.Name, ":") && !modelName(f.Name, ofNames):
			return "a name"
		case slices.Contains(ofConnection, f.Name):
			return f.Name
		case !modelValue(f.Value):
			return "a value"
		}
	}
	return ""
}

// lengthFault tells what the chapter refuses of content-length.
func lengthFault(l []api.Field, end bool) string {
	values := valuesOf(l, "content-length")
	for _, s := range values {
		n, is := modelNumber(s)
		switch {
		case !is:
			return "no number"
		case s != values[0]:
			return "two lengths"
		case end && n != 0:
			return "a length at the end"
		}
	}
	return ""
}

// fault tells the first thing that the chapter refuses in a request's fields; nothing, if they are right.
func fault(l []api.Field, end bool) string {
	for _, s := range valuesOf(l, "te") {
		if s != "trailers" {
			return "te"
		}
	}
	for _, s := range []string{colonFault(l), plainFault(l), lengthFault(l, end)} {
		if s != "" {
			return s
		}
	}
	return ""
}

func modelRead(l []api.Field, end bool) (request.Request, bool) {
	if fault(l, end) != "" {
		return request.Request{}, false
	}
	firstOf := func(name, none string) string { return append(valuesOf(l, name), none)[0] }
	length, _ := strconv.Atoi(firstOf("content-length", "-1"))
	return request.Request{
		Method: firstOf(":method", ""),
		Scheme: firstOf(":scheme", ""),
		Path:   firstOf(":path", ""),
		Host:   firstOf(":authority", firstOf("host", "")),
		Length: length,
		Rank:   modelRank(firstOf("priority", "")),
	}, true
}

func modelTrailers(l []api.Field) bool {
	for _, f := range l {
		if strings.HasPrefix(f.Name, ":") || f.Name == "te" {
			return false
		}
	}
	return plainFault(l) == ""
}

// roomy is a list that has room behind it, in which fields stand that would change each answer.
func roomy(l []api.Field) []api.Field {
	behind := []api.Field{field(":authority", "behind"), field("content-length", "77"), field("priority", "u=1"), field("te", "gzip")}
	return append(slices.Clip(slices.Clone(l)), behind...)[:len(l)]
}

// wantRead holds Read of a list with room behind it, and that list and room stay as they were.
func wantRead(t *testing.T, l []api.Field, end bool, q request.Request, is bool) {
	t.Helper()
	came := roomy(l)
	was := slices.Clone(came[:cap(came)])
	gotQ, gotIs := request.Read(came, end)
	if gotQ != q || gotIs != is {
		t.Errorf("Read(%s, %t) = %+v %t, want %+v %t", show(l), end, gotQ, gotIs, q, is)
	}
	if !slices.Equal(came[:cap(came)], was) {
		t.Errorf("Read(%s, %t) changed what came in", show(l), end)
	}
}

// wantRight holds Read, with end and without.
func wantRight(t *testing.T, l []api.Field, q request.Request) {
	t.Helper()
	wantRead(t, l, false, q, true)
	wantRead(t, l, true, q, true)
}

// wantWrong holds that fields are not right, with end and without.
func wantWrong(t *testing.T, l []api.Field) {
	t.Helper()
	wantRead(t, l, false, request.Request{}, false)
	wantRead(t, l, true, request.Request{}, false)
}

// wantModel holds Read against the model.
func wantModel(t *testing.T, l []api.Field) {
	t.Helper()
	for _, end := range []bool{false, true} {
		q, is := modelRead(l, end)
		wantRead(t, l, end, q, is)
	}
}

func wantTrailers(t *testing.T, l []api.Field, is bool) {
	t.Helper()
	came := roomy(l)
	was := slices.Clone(came[:cap(came)])
	if got := request.Trailers(came); got != is {
		t.Errorf("Trailers(%s) = %t, want %t", show(l), got, is)
	}
	if !slices.Equal(came[:cap(came)], was) {
		t.Errorf("Trailers(%s) changed what came in", show(l))
	}
}

func wantToken(t *testing.T, s string, is bool) {
	t.Helper()
	if got := request.Token(s); got != is {
		t.Errorf("Token(%q) of %d bytes = %t, want %t", s, len(s), got, is)
	}
}

func wantNumber(t *testing.T, s string, n int, is bool) {
	t.Helper()
	if gotN, gotIs := request.Number(s); gotN != n || gotIs != is {
		t.Errorf("Number(%q) = %d %t, want %d %t", s, gotN, gotIs, n, is)
	}
}

func wantRank(t *testing.T, s string, n int) {
	t.Helper()
	if got := request.Rank(s); got != n {
		t.Errorf("Rank(%q) = %d, want %d", s, got, n)
	}
}

// eachByte calls with each byte, as a text of itself.
func eachByte(call func(c string)) {
	for c := range 256 {
		call(string([]byte{byte(c)}))
	}
}

// eachOrder calls with each order of a list.
func eachOrder[T any](l []T, call func([]T)) {
	if len(l) == 0 {
		call(nil)
	}
	for i, x := range l {
		eachOrder(slices.Concat(l[:i], l[i+1:]), func(rest []T) { call(slices.Concat([]T{x}, rest)) })
	}
}

func TestP17_1TokenOfEachByte(t *testing.T) {
	rights := 0
	eachByte(func(c string) {
		is := strings.Contains(ofNames, c)
		if is {
			rights++
		}
		for _, s := range []string{c, c + "a", "a" + c, "a" + c + "b", c + c, "x-" + c + "-y", "-" + c} {
			wantToken(t, s, is)
		}
	})
	if rights != 51 {
		t.Errorf("%d bytes may stand in a name", rights)
	}
}

func TestP17_1TokenOfAllTextsOfTwoBytes(t *testing.T) {
	eachByte(func(a string) {
		eachByte(func(b string) {
			wantToken(t, a+b, strings.Contains(ofNames, a) && strings.Contains(ofNames, b))
		})
	})
}

func TestP17_1TokenByLength(t *testing.T) {
	wantToken(t, "", false)
	for _, c := range []string{"a", "z", "0", "9", "!", "~", "`"} {
		for _, n := range []int{1, 2, 3, 8, 31, 32, 33, 62, 63, 64} {
			wantToken(t, strings.Repeat(c, n), true)
		}
		for _, n := range []int{65, 66, 127, 128, 129, 255, 256, 257, 256 + 64, 1024, 65536, 65536 + 64} {
			wantToken(t, strings.Repeat(c, n), false)
		}
	}
	wantToken(t, ofNames, true)
	wantToken(t, ofNames+"abcdefghijklm", true)
	wantToken(t, ofNames+"abcdefghijklmn", false)
}

// A wrong byte at each place of names of each length.
func TestP17_1TokenOfAWrongByteAtEachPlace(t *testing.T) {
	for _, n := range []int{1, 2, 3, 7, 8, 9, 63, 64} {
		right := strings.Repeat("m", n)
		for at := range n {
			for _, c := range []string{"M", ":", " ", "\t", "\x00", "\n", "\r", "\x7f", "\x80", "\xff", "/", "(", "@", "[", "{", "}", "\"", ",", ";", "=", "?", "\\"} {
				wantToken(t, right[:at]+c+right[at+1:], false)
			}
		}
	}
}

func TestP17_1TokenOfGreatLetters(t *testing.T) {
	for _, c := range great {
		s := string(c)
		for _, name := range []string{s, s + "ost", "ho" + s + "t", "hos" + s} {
			wantToken(t, name, false)
			wantToken(t, strings.ToLower(name), true)
		}
	}
	for _, name := range []string{"Host", "HOST", "hosT", "Content-Length", "content-Length", "X", "GET", "OPTIONS"} {
		wantToken(t, name, false)
	}
}

func TestP17_1TokenOfNoUTF8(t *testing.T) {
	for _, s := range notUTF8 {
		for _, name := range []string{s, s + "a", "a" + s, "a" + s + "b", s + s, strings.Repeat("a", 64-min(64, len(s))) + s} {
			wantToken(t, name, false)
		}
	}
}

func TestP17_1TokenOfNames(t *testing.T) {
	for _, name := range []string{"host", "te", "content-length", "connection", "keep-alive", "x", "x-1", "1", "-", "a.b", "a_b", "priority", "!#$%&'*+-.^_`|~"} {
		wantToken(t, name, true)
	}
	for _, name := range []string{":method", ":", "a:b", "a:", "a b", " a", "a ", "a\tb", "a\nb", "a,b", "a=b", "a/b", "(a)", "\"a\"", "a\x00"} {
		wantToken(t, name, false)
	}
}

func TestP17_1NumberOfEachByte(t *testing.T) {
	wantNumber(t, "", 0, false)
	eachByte(func(c string) {
		n := strings.Index(tens, c)
		wantNumber(t, c, max(n, 0), n >= 0)
	})
}

func TestP17_1NumberOfAllTextsOfTwoBytes(t *testing.T) {
	eachByte(func(a string) {
		eachByte(func(b string) {
			n, is := modelNumber(a + b)
			wantNumber(t, a+b, n, is)
		})
	})
}

func TestP17_1NumberOfEachSmallOne(t *testing.T) {
	for n := range 200000 {
		wantNumber(t, strconv.Itoa(n), n, true)
	}
}

func TestP17_1NumberByDigits(t *testing.T) {
	one := 1
	for digits := 1; digits <= 9; digits++ {
		for _, n := range []int{one, one + 1, 2 * one, 9 * one, 10*one - 1, 10*one - 2} {
			wantNumber(t, strconv.Itoa(n), n, true)
		}
		one *= 10
	}
	wantNumber(t, "123456789", 123456789, true)
	wantNumber(t, "999999998", 999999998, true)
	wantNumber(t, "999999999", 999999999, true)
	wantNumber(t, "100000000", 100000000, true)
	for _, s := range []string{
		"1000000000", "1000000001", "1234567890", "2147483647", "2147483648", "4294967295", "4294967296", "4294967297", "9999999999", "10000000000",
		"9223372036854775807", "9223372036854775808", "18446744073709551615", "18446744073709551616", "18446744073709551617", "340282366920938463463374607431768211457",
		strings.Repeat("9", 1000), "1" + strings.Repeat("0", 65536),
	} {
		wantNumber(t, s, 0, false)
	}
}

func TestP17_1NumberOfNoughtsAhead(t *testing.T) {
	for noughts := 1; noughts <= 20; noughts++ {
		ahead := strings.Repeat("0", noughts)
		for _, s := range []string{"0", "1", "5", "9", "10", "12", "99999999", "123456789"} {
			wantNumber(t, ahead+s, 0, false)
		}
	}
	wantNumber(t, "0", 0, true)
}

// Another byte in a number, at each place, and in place of each digit.
func TestP17_1NumberOfAnotherByteAtEachPlace(t *testing.T) {
	for _, s := range []string{"0", "1", "9", "10", "42", "100", "65535", "12345678", "123456789", "999999999"} {
		for at := range len(s) + 1 {
			eachByte(func(c string) {
				if strings.Contains(tens, c) {
					return
				}
				wantNumber(t, s[:at]+c+s[at:], 0, false)
				if at < len(s) {
					wantNumber(t, s[:at]+c+s[at+1:], 0, false)
				}
			})
		}
	}
}

func TestP17_1NumberOfTextsThatAreNone(t *testing.T) {
	for _, s := range slices.Concat(notUTF8, []string{
		"-1", "+1", "-0", "+0", " 1", "1 ", "\t1", "1\n", "1.0", "1e3", "0x1", "0x", "0b1", "1_0", "1,2", "a", "ff", "one", "-", "+", ".", "NaN", "1\x00", "\x001",
	}) {
		wantNumber(t, s, 0, false)
	}
}

func TestP17_1RankOfEachDigit(t *testing.T) {
	for n := range 8 {
		s := "u=" + strconv.Itoa(n)
		for _, behind := range []string{"", ",", ",i", ", i", ",,", ",u=1", ", u=6", ",\x00", ",\xff", ",8", "," + strings.Repeat("i", 1000)} {
			wantRank(t, s+behind, n)
		}
	}
}

// Each byte behind u=, alone, ahead of a comma, and ahead of each other byte.
func TestP17_1RankOfEachByte(t *testing.T) {
	eachByte(func(c string) {
		n := strings.Index("01234567", c)
		if n < 0 {
			n = 3
		}
		wantRank(t, "u="+c, n)
		wantRank(t, "u="+c+",", n)
		wantRank(t, "u="+c+",i", n)
		eachByte(func(behind string) {
			if behind != "," {
				wantRank(t, "u="+c+behind, 3)
				wantRank(t, "u="+c+behind+",", 3)
				wantRank(t, "u="+c+behind+"i", 3)
			}
		})
	})
}

// Another byte in a value that tells a rank, at each place ahead of its digit, and in place of what stands there.
func TestP17_1RankOfAnotherByteAtEachPlace(t *testing.T) {
	for _, s := range []string{"u=0", "u=5", "u=7,i"} {
		eachByte(func(c string) {
			for at := range 3 {
				wantRank(t, s[:at]+c+s[at:], modelRank(s[:at]+c+s[at:]))
				wantRank(t, s[:at]+c+s[at+1:], modelRank(s[:at]+c+s[at+1:]))
			}
			wantRank(t, c+s, 3)
		})
	}
}

func TestP17_1RankWhereNoneIsTold(t *testing.T) {
	for _, s := range slices.Concat(notUTF8, []string{
		"", "u", "=", "u=", "u=,", "u=,1", "u,", ",", ",u=1", "i", "i,u=1", "i, u=5", " u=1", "\tu=1", "u =1", "u= 1", "u==1", "u=1 ", "u=1 ,i", "u=1;", "u=1\t", "uu=1", "xu=1", "U=1", "u:1", "v=1",
		"1", "u1", "u=8", "u=9", "u=8,", "u=-1", "u=+1", "u=10", "u=01", "u=00", "u=07", "u=77", "u=1.0", "u=0x1", "u=\"1\"", "u=(1)", "u=a", "u=\xb1", "u=\u0661", "u=1\x00", "u=1u=1",
	}) {
		wantRank(t, s, 3)
	}
}

func TestP17_2Example(t *testing.T) {
	wantRight(t, with(get(), field(":authority", "a")), request.Request{Method: "GET", Scheme: "https", Path: "/", Host: "a", Length: -1, Rank: 3})
}

func TestP17_2ARequestWithAllThatMayStandThere(t *testing.T) {
	l := with(asking("POST", "http", "/a?b=c"), field(":authority", "example.org:80"),
		field("content-length", "12"), field("te", "trailers"), field("host", "other"), field("accept", "*/*, \x80\ttext"), field("cookie", ""),
		field("content-length", "12"), field("priority", "u=0, i"), field("priority", "u=6"), field("te", "trailers"))
	q := request.Request{Method: "POST", Scheme: "http", Path: "/a?b=c", Host: "example.org:80", Length: 12, Rank: 0}
	wantRead(t, l, false, q, true)
	wantRead(t, l, true, request.Request{}, false)
	q.Length = 0
	wantRight(t, put(l, "content-length", "0"), q)
}

func TestP17_2OfNothing(t *testing.T) {
	wantWrong(t, nil)
	wantWrong(t, []api.Field{})
	wantWrong(t, []api.Field{{}})
	wantWrong(t, with(get(), api.Field{}))
}

// Each of the names with a colon lacking, once, twice and three times, with the same value and with another one that may stand there.
func TestP17_2HowOftenNamesWithAColonStandThere(t *testing.T) {
	values := map[string][]string{":method": {"GET", "PUT"}, ":scheme": {"https", "http"}, ":path": {"/", "/x"}, ":authority": {"a", ""}}
	var counts [4]int
	for n := range 256 {
		for i := range counts {
			counts[i] = n >> (2 * i) & 3
		}
		for second := range 2 {
			var l []api.Field
			for i, name := range colons {
				for k := range counts[i] {
					l = append(l, field(name, values[name][min(k, second)]))
				}
			}
			if counts[0] != 1 || counts[1] != 1 || counts[2] != 1 || counts[3] > 1 {
				wantWrong(t, l)
				continue
			}
			q := plain()
			if counts[3] == 1 {
				q.Host = "a"
			}
			wantRight(t, l, q)
		}
	}
}

// A second one at each place, also behind another field.
func TestP17_2ASecondOneAtEachPlace(t *testing.T) {
	whole := with(get(), field(":authority", "a"), field("x", "y"))
	for _, f := range whole[:4] {
		for at := range len(whole) + 1 {
			wantWrong(t, putAt(whole, at, f))
		}
	}
}

func TestP17_2EachOrderOfNamesWithAColon(t *testing.T) {
	eachOrder(get(), func(l []api.Field) { wantRight(t, l, plain()) })
	q := plain()
	q.Host = "h"
	eachOrder(with(get(), field(":authority", "h")), func(l []api.Field) {
		wantRight(t, l, q)
		wantRight(t, with(l, field("x", "y")), q)
	})
}

// All lists of up to six fields of the names with a colon, of another such name, and of one without.
func TestP17_2AllListsOfNamesWithAColon(t *testing.T) {
	of := with(get(), field(":authority", "h"), field(":status", "200"), field("x", "y"))
	var grow func(l []api.Field)
	grow = func(l []api.Field) {
		wantModel(t, l)
		if len(l) < 6 {
			for _, f := range of {
				grow(with(l, f))
			}
		}
	}
	grow(nil)
}

// Each field with a colon behind another one, at each place.
func TestP17_2AColonBehindAnother(t *testing.T) {
	eachOrder(with(get(), field(":authority", "h")), func(l []api.Field) {
		for at := range len(l) {
			for _, other := range []api.Field{field("x", "y"), field("host", "h"), field("te", "trailers"), field("content-length", "0"), field("priority", "u=1"), field("a", "")} {
				wantWrong(t, putAt(l, at, other))
			}
		}
	})
	for at := range 3 {
		wantWrong(t, putAt(get(), at, field("x", "y")))
	}
}

func TestP17_2AnotherNameWithAColon(t *testing.T) {
	for _, name := range []string{
		":", "::", ":status", ":protocol", ":host", ":x", ":te", ":m", ":metho", ":methods", ":method ", ":method:", ": method", "::method", ":Method", ":METHOD", ":schem", ":schemes", ":Scheme", ":pat", ":paths", ":Path", ":authorit", ":authoritys", ":Authority",
		":method\x00", ":\x00", ":\xff", ":content-length", ":connection", ":" + strings.Repeat("a", 63), ":" + strings.Repeat("a", 64),
	} {
		for at := range 4 {
			wantWrong(t, putAt(get(), at, field(name, "x")))
			wantWrong(t, putAt(get(), at, field(name, "")))
		}
		for at := range 3 {
			l := get()
			l[at].Name = name
			wantWrong(t, l)
		}
	}
	eachByte(func(c string) {
		wantWrong(t, with(get(), field(":"+c, "x")))
		wantWrong(t, putAt(get(), 0, field(":"+c, "x")))
	})
}

// A colon makes a name that begins with it another one than the name without it.
func TestP17_2NamesWithoutTheirColon(t *testing.T) {
	for _, name := range []string{"method", "scheme", "path"} {
		l := put(get(), ":"+name, "/")
		wantWrong(t, with(without(l, ":"+name), field(name, "/")))
		wantRight(t, with(get(), field(name, "x")), plain())
	}
	wantRight(t, with(get(), field("authority", "x")), plain())
}

func TestP17_2MethodOfEachByte(t *testing.T) {
	eachByte(func(c string) {
		for _, method := range []string{c, c + "A", "a" + c, "G" + c + "T", c + c, "0" + c} {
			l := put(get(), ":method", method)
			if !strings.Contains(ofNames+great, c) {
				wantWrong(t, l)
				continue
			}
			q := plain()
			q.Method = method
			wantRight(t, l, q)
		}
	})
}

func TestP17_2Methods(t *testing.T) {
	for _, method := range []string{
		"GET", "HEAD", "POST", "PUT", "DELETE", "CONNECT", "OPTIONS", "TRACE", "PATCH", "get", "Get", "gEt", "options", "G", "g", "1", "123", "M-SEARCH", "a.b", "!", "x*y", "*", great, small, tens, signs,
		strings.Repeat("G", 63), strings.Repeat("G", 64), strings.Repeat("g", 64), strings.Repeat("1", 64), strings.Repeat("Gg1!", 16),
	} {
		q := plain()
		q.Method = method
		wantRight(t, put(get(), ":method", method), q)
	}
	for _, method := range slices.Concat(notUTF8, []string{
		"", " ", " GET", "GET ", "G T", "\tGET", "GET\t", "GET\x00", "GET\n", "GET\r", "GET/", "/", "GET,", "GET:", ":GET", "(GET)", "\"GET\"", "G@T", "G[T", "G{T",
		strings.Repeat("G", 65), strings.Repeat("g", 65), strings.Repeat("G", 128), strings.Repeat("G", 256+64), strings.Repeat("G", 1<<16),
	}) {
		wantWrong(t, put(get(), ":method", method))
	}
}

func TestP17_2Schemes(t *testing.T) {
	for _, scheme := range []string{"http", "https"} {
		q := plain()
		q.Scheme = scheme
		wantRight(t, put(get(), ":scheme", scheme), q)
	}
	for _, scheme := range []string{
		"", "h", "htt", "httpss", "httpx", "HTTP", "HTTPS", "Http", "Https", "httpS", "ftp", "ws", "wss", "file", "*", "http:", "http://", "https://", " http", "http ", "https ", "\thttp", "http\x00", "http\n", "hhttp", "h\xc5\xa5tp", "httphttps", "http,https", "http\u017f",
	} {
		wantWrong(t, put(get(), ":scheme", scheme))
	}
	eachByte(func(c string) {
		wantModel(t, put(get(), ":scheme", "http"+c))
		wantWrong(t, put(get(), ":scheme", "https"+c))
		wantWrong(t, put(get(), ":scheme", c+"http"))
		wantWrong(t, put(get(), ":scheme", c))
	})
}

func TestP17_2Paths(t *testing.T) {
	for _, path := range []string{
		"/", "//", "/a", "/a/b", "/?", "/?a=b", "/*", "/ a", "/a b", "/a\tb", "/#", "/A", "/:x", "/\xff", "/\u00e9", "/%20", "/\x01", "/\x7f", "/" + strings.Repeat("a", 63), "/" + strings.Repeat("a", 64), "/" + strings.Repeat("a", 1<<16),
	} {
		for _, method := range []string{"GET", "OPTIONS"} {
			q := plain()
			q.Method, q.Path = method, path
			wantRight(t, put(put(get(), ":path", path), ":method", method), q)
		}
	}
	for _, path := range []string{
		"", "a", "a/", "*/", "**", "*a", "* ", " *", "*/a", "/*\n", "?", "?a", "\\", ".", "./", " /", "\t/", "\x00/", "\n/", "http://a/", "http://a", "/ ", "/\t", "/a ", "/a\t", "/\x00", "/a\x00b", "/\n", "/a\nb", "/\r", "/a\rb", "\xff/", "%2f", "\u2215", "-",
	} {
		for _, method := range []string{"GET", "OPTIONS"} {
			wantWrong(t, put(put(get(), ":path", path), ":method", method))
		}
	}
	eachByte(func(c string) {
		wantModel(t, put(get(), ":path", c))
		wantModel(t, put(get(), ":path", c+"a"))
		wantModel(t, put(put(get(), ":path", "*"+c), ":method", "OPTIONS"))
		wantModel(t, put(put(get(), ":path", c), ":method", "OPTIONS"))
	})
}

func TestP17_2TheStar(t *testing.T) {
	for _, scheme := range []string{"http", "https"} {
		eachOrder(asking("OPTIONS", scheme, "*"), func(l []api.Field) {
			wantRight(t, l, request.Request{Method: "OPTIONS", Scheme: scheme, Path: "*", Length: -1, Rank: 3})
		})
	}
	for _, method := range []string{"GET", "HEAD", "POST", "options", "Options", "OPTIONs", "oPTIONS", "OPTION", "OPTIONSS", "OPTIONS1", "OPTIONS-", "*", "O", "XOPTIONS", "OPTIONS ", ""} {
		wantWrong(t, asking(method, "https", "*"))
	}
}

func TestP17_2OtherNamesOfEachByte(t *testing.T) {
	eachByte(func(c string) {
		for _, name := range []string{c, c + "a", "a" + c, "a" + c + "b"} {
			l := with(get(), field(name, "v"))
			if strings.Contains(ofNames, c) {
				wantRight(t, l, plain())
			} else {
				wantWrong(t, l)
				wantWrong(t, with(l, field("x", "y")))
				wantWrong(t, with(get(), field("x", "y"), field(name, "v")))
			}
		}
	})
}

func TestP17_2OtherNamesByLength(t *testing.T) {
	wantWrong(t, with(get(), field("", "v")))
	wantWrong(t, with(get(), field("", "")))
	for _, n := range []int{1, 2, 63, 64} {
		wantRight(t, with(get(), field(strings.Repeat("n", n), "v")), plain())
	}
	for _, n := range []int{65, 66, 128, 256 + 64, 1 << 16} {
		wantWrong(t, with(get(), field(strings.Repeat("n", n), "v")))
	}
}

func TestP17_2OtherNames(t *testing.T) {
	for _, name := range []string{"Host", "HOST", "Content-Length", "Te", "TE", "Priority", "X", "x y", "x:", "x:y", "x\x00", "Connection", "Upgrade"} {
		wantWrong(t, with(get(), field(name, "trailers")))
	}
	for _, s := range notUTF8 {
		wantWrong(t, with(get(), field(s, "v")))
		wantWrong(t, with(get(), field("x"+s, "v")))
	}
	for _, name := range []string{"accept", "cookie", "user-agent", "x-1", "1", "-", "trailer", "expect", "proxy-authorization", "content-type", "status", "x"} {
		wantRight(t, with(get(), field(name, "v"), field(name, "v"), field(name, "w")), plain())
	}
}

func TestP17_2NamesThatMayNotStandThere(t *testing.T) {
	whole := with(get(), field("a", "b"), field("x", "y"))
	for _, name := range ofConnection {
		for _, value := range []string{"", "close", "keep-alive", "te", "trailers", "chunked", "websocket", "0", "x"} {
			for at := range len(whole) + 1 {
				wantWrong(t, putAt(whole, at, field(name, value)))
			}
		}
		for _, near := range []string{name + "s", "x" + name, "x-" + name, name[1:], name[:len(name)-1], strings.ReplaceAll(name, "-", ""), strings.ReplaceAll(name, "-", "_") + "1", name + "-" + name} {
			if !slices.Contains(ofConnection, near) {
				wantRight(t, with(get(), field(near, "close")), plain())
			}
		}
	}
}

func TestP17_2TE(t *testing.T) {
	whole := with(get(), field("a", "b"), field("x", "y"))
	for at := 3; at <= len(whole); at++ {
		wantRight(t, putAt(whole, at, field("te", "trailers")), plain())
		wantRight(t, putAt(whole, at, field("te", "trailers"), field("te", "trailers")), plain())
		for _, value := range []string{"", "gzip", "trailer", "trailerss", "Trailers", "TRAILERS", "trailers,", "trailers, gzip", "gzip, trailers", "trailers;q=1", "trailers trailers", " trailers", "trailers ", "\ttrailers", "trailers\x00", "chunked", "0"} {
			wantWrong(t, putAt(whole, at, field("te", value)))
			wantWrong(t, putAt(whole, at, field("te", "trailers"), field("te", value)))
			wantWrong(t, putAt(whole, at, field("te", value), field("te", "trailers")))
			wantWrong(t, putAt(whole, at, field("te", value), field("te", value)))
		}
	}
	for _, name := range []string{"t", "e", "tee", "te-", "xte", "trailer"} {
		wantRight(t, with(get(), field(name, "gzip")), plain())
	}
}

// Each byte at the beginning, in the middle and at the end of a value, and alone, of fields whose value may be anything that is right.
func TestP17_2ValuesOfEachByte(t *testing.T) {
	eachByte(func(c string) {
		for _, x := range []struct {
			value string
			is    bool
		}{
			{c, !strings.Contains("\x00\n\r \t", c)},
			{c + "b", !strings.Contains("\x00\n\r \t", c)},
			{"a" + c, !strings.Contains("\x00\n\r \t", c)},
			{"a" + c + "b", !strings.Contains("\x00\n\r", c)},
			{c + c, !strings.Contains("\x00\n\r \t", c)},
			{"a" + c + c + "b", !strings.Contains("\x00\n\r", c)},
		} {
			host := plain()
			host.Host = x.value
			path := plain()
			path.Path = "/" + x.value + "/"
			isPath := !strings.ContainsAny(x.value, "\x00\n\r")
			for _, y := range []struct {
				l  []api.Field
				q  request.Request
				is bool
			}{
				{with(get(), field("x", x.value)), plain(), x.is},
				{with(get(), field("x", ""), field("y", x.value), field("z", "")), plain(), x.is},
				{with(get(), field(":authority", x.value)), host, x.is},
				{putAt(get(), 0, field(":authority", x.value)), host, x.is},
				{with(get(), field("host", x.value)), host, x.is},
				{put(get(), ":path", path.Path), path, isPath},
			} {
				if y.is {
					wantRight(t, y.l, y.q)
				} else {
					wantWrong(t, y.l)
				}
			}
		}
	})
}

// The three bytes that no value has, at each place of values of some lengths; and the two that stand at no end.
func TestP17_2ValuesOfWrongBytesAtEachPlace(t *testing.T) {
	for _, n := range []int{1, 2, 3, 8, 9, 17, 64, 65, 300} {
		right := strings.Repeat("v", n)
		for at := range n {
			for _, c := range []string{"\x00", "\n", "\r"} {
				wantWrong(t, with(get(), field("x", right[:at]+c+right[at+1:])))
				wantWrong(t, with(get(), field(":authority", right[:at]+c+right[at+1:])))
				wantWrong(t, put(get(), ":path", "/"+right[:at]+c+right[at+1:]))
			}
			for _, c := range []string{" ", "\t"} {
				wantModel(t, with(get(), field("x", right[:at]+c+right[at+1:])))
				wantModel(t, with(get(), field(":authority", right[:at]+c+right[at+1:])))
				wantModel(t, put(get(), ":path", "/"+right[:at]+c+right[at+1:]))
			}
		}
	}
}

func TestP17_2Values(t *testing.T) {
	for _, value := range slices.Concat(notUTF8, []string{"", "a", "a b", "a  b", "a\tb", "\x01", "\x0b", "\x0c", "\x7f", ":", ",", "\"", "A", strings.Repeat("v", 65), strings.Repeat("v", 1<<16), "a " + strings.Repeat(" ", 100) + "b"}) {
		wantRight(t, with(get(), field("x", value)), plain())
	}
	for _, value := range []string{" ", "\t", "  ", " \t", "\t ", " a", "a ", "\ta", "a\t", " a ", "\x00", "\n", "\r", "a\r\nb", "a\x00b", "\xff\x00", "\x00\xff", "\xff\n", "\xff ", " \xff", "\u00e9\r", strings.Repeat("v", 1<<16) + "\n"} {
		for _, name := range []string{"x", "accept", "host", "priority", "cookie", "content-length", "te"} {
			wantWrong(t, with(get(), field(name, value)))
			wantWrong(t, with(get(), field("a", "b"), field(name, value), field("y", "z")))
		}
		for _, name := range colons {
			l := with(get(), field(":authority", "h"))
			wantWrong(t, put(l, name, value))
			wantModel(t, put(l, name, valuesOf(l, name)[0]+value))
			wantModel(t, put(l, name, value+valuesOf(l, name)[0]))
		}
	}
}

// Values that are wrong in a field of which only the first one is asked.
func TestP17_2WrongValuesBehindTheFirstOne(t *testing.T) {
	for _, value := range []string{" ", "\t", "a\n", "\r", "\x00", "a ", "\ta"} {
		wantWrong(t, with(get(), field(":authority", "h"), field("host", value)))
		wantWrong(t, with(get(), field("host", "h"), field("host", value)))
		wantWrong(t, with(get(), field("priority", "u=1"), field("priority", value)))
		wantWrong(t, with(get(), field("priority", value), field("priority", "u=1")))
	}
}

func TestP17_2Length(t *testing.T) {
	for _, n := range []int{0, 1, 2, 9, 10, 12, 100, 65535, 123456789, 999999998, 999999999} {
		q := plain()
		q.Length = n
		one := field("content-length", strconv.Itoa(n))
		for _, l := range [][]api.Field{
			with(get(), one), with(get(), one, one), with(get(), one, one, one), with(get(), one, field("x", "y"), one), with(get(), field("x", "y"), one), with(get(), one, field("x", "y")),
		} {
			wantRead(t, l, false, q, true)
			if n == 0 {
				wantRead(t, l, true, q, true)
			} else {
				wantRead(t, l, true, request.Request{}, false)
			}
		}
	}
	wantRight(t, with(get(), field("content-lengths", "x"), field("length", "x"), field("content-length-", "5")), plain())
}

func TestP17_2LengthsThatAreUnlike(t *testing.T) {
	values := []string{"0", "1", "2", "10", "11", "999999999"}
	for _, a := range values {
		for _, b := range values {
			wantModel(t, with(get(), field("content-length", a), field("content-length", b)))
			if a != b {
				wantWrong(t, with(get(), field("content-length", a), field("content-length", b)))
				wantWrong(t, with(get(), field("content-length", a), field("content-length", a), field("content-length", b)))
				wantWrong(t, with(get(), field("content-length", a), field("content-length", b), field("content-length", a)))
				wantWrong(t, with(get(), field("content-length", b), field("x", "y"), field("content-length", a), field("content-length", a)))
			}
		}
	}
}

// Texts that are no numbers: among them those that tell the same as a right one, but in another way.
func TestP17_2LengthsThatAreNoNumbers(t *testing.T) {
	for _, value := range slices.Concat(notUTF8, []string{
		"", "x", "-1", "-0", "+0", "+5", "00", "05", "005", "0000000005", "5 ", " 5", "5.0", "5,5", "5, 5", "0x5", "5e0", "1_0", "1000000000", "4294967296", "18446744073709551616", "18446744073709551621", "\x005", "5\x00", "5\n", "\u0665", "five",
	}) {
		bad := field("content-length", value)
		wantWrong(t, with(get(), bad))
		wantWrong(t, with(get(), bad, bad))
		for _, right := range []api.Field{field("content-length", "0"), field("content-length", "5"), field("content-length", "1")} {
			wantWrong(t, with(get(), bad, right))
			wantWrong(t, with(get(), right, bad))
			wantWrong(t, with(get(), right, right, bad))
		}
	}
}

func TestP17_2Host(t *testing.T) {
	ahead := func(host string) []api.Field { return with(get(), field(":authority", host)) }
	for _, x := range []struct {
		l    []api.Field
		host string
	}{
		{get(), ""},
		{ahead("a"), "a"},
		{ahead(""), ""},
		{ahead("a:80"), "a:80"},
		{ahead("\xff"), "\xff"},
		{ahead("A b"), "A b"},
		{with(ahead("a"), field("host", "b")), "a"},
		{with(ahead(""), field("host", "b")), ""},
		{with(ahead("a"), field("host", "")), "a"},
		{with(ahead("a"), field("host", "b"), field("host", "c")), "a"},
		{with(get(), field("host", "b")), "b"},
		{with(get(), field("host", "")), ""},
		{with(get(), field("host", "b"), field("host", "c")), "b"},
		{with(get(), field("host", "c"), field("host", "b"), field("host", "b")), "c"},
		{with(get(), field("host", ""), field("host", "b")), ""},
		{with(get(), field("x", "y"), field("host", "b"), field("z", "")), "b"},
		{with(get(), field("hosts", "b"), field("authority", "c"), field("x-host", "d")), ""},
		{putAt(get(), 0, field(":authority", "a")), "a"},
		{with(putAt(get(), 1, field(":authority", "")), field("host", "b")), ""},
	} {
		q := plain()
		q.Host = x.host
		wantRight(t, x.l, q)
	}
}

func TestP17_2RankOfTheFirstPriority(t *testing.T) {
	for _, x := range []struct {
		values []string
		want   int
	}{
		{nil, 3},
		{[]string{""}, 3},
		{[]string{"u=0"}, 0},
		{[]string{"u=1"}, 1},
		{[]string{"u=2, i"}, 2},
		{[]string{"u=3"}, 3},
		{[]string{"u=4,i"}, 4},
		{[]string{"u=7"}, 7},
		{[]string{"u=8"}, 3},
		{[]string{"i"}, 3},
		{[]string{"i, u=1"}, 3},
		{[]string{"u=7 ,i"}, 3},
		{[]string{"u=5", "u=1"}, 5},
		{[]string{"u=1", "u=5"}, 1},
		{[]string{"", "u=5"}, 3},
		{[]string{"u=3", "u=5"}, 3},
		{[]string{"i", "u=5", "u=6"}, 3},
		{[]string{"u=6", ""}, 6},
	} {
		l := with(get(), field("x", "u=2"))
		for _, value := range x.values {
			l = append(l, field("priority", value), field("y", "u=4"))
		}
		q := plain()
		q.Rank = x.want
		wantRight(t, l, q)
	}
}

// Whether a field may be put into a table is nothing to a request.
func TestP17_2NeverCountsForNothing(t *testing.T) {
	l := with(get(), field(":authority", "a"), field("content-length", "0"), field("te", "trailers"), field("priority", "u=1"))
	q := request.Request{Method: "GET", Scheme: "https", Path: "/", Host: "a", Length: 0, Rank: 1}
	for n := range 1 << len(l) {
		for i := range l {
			l[i].Never = n>>i&1 == 1
		}
		wantRight(t, l, q)
		wantWrong(t, with(l, api.Field{Name: "upgrade", Value: "x", Never: n%2 == 0}))
		if !request.Trailers([]api.Field{{Name: "x", Value: "y", Never: n%2 == 0}}) {
			t.Error("Trailers asks for Never")
		}
	}
}

// oneFault is a thing that makes a right request wrong, whatever else is done to it.
type oneFault struct {
	name string
	end  bool
	do   func([]api.Field) []api.Field
}

func ahead(f api.Field) func([]api.Field) []api.Field {
	return func(l []api.Field) []api.Field { return putAt(l, 0, f) }
}

func behind(f api.Field) func([]api.Field) []api.Field {
	return func(l []api.Field) []api.Field { return with(l, f) }
}

func lacking(name string) func([]api.Field) []api.Field {
	return func(l []api.Field) []api.Field { return without(l, name) }
}

func changed(name, value string) func([]api.Field) []api.Field {
	return func(l []api.Field) []api.Field { return put(l, name, value) }
}

func oneFaults() []oneFault {
	return []oneFault{
		{"no method", false, lacking(":method")},
		{"no scheme", false, lacking(":scheme")},
		{"no path", false, lacking(":path")},
		{"two methods", false, func(l []api.Field) []api.Field { return putAt(l, 0, field(":method", "GET"), field(":method", "GET")) }},
		{"two schemes", false, func(l []api.Field) []api.Field {
			return putAt(l, 0, field(":scheme", "http"), field(":scheme", "http"))
		}},
		{"two paths", false, func(l []api.Field) []api.Field { return putAt(l, 0, field(":path", "/"), field(":path", "/")) }},
		{"two authorities", false, func(l []api.Field) []api.Field {
			return putAt(l, 0, field(":authority", "a"), field(":authority", "a"))
		}},
		{"another colon", false, ahead(field(":status", "200"))},
		{"a colon behind", false, func(l []api.Field) []api.Field { return with(l, field("x", "y"), field(":authority", "a")) }},
		{"the method", false, changed(":method", "G T")},
		{"the scheme", false, changed(":scheme", "ftp")},
		{"the path", false, changed(":path", "a")},
		{"the star", false, func(l []api.Field) []api.Field { return put(put(l, ":path", "*"), ":method", "options") }},
		{"a great letter", false, behind(field("X", "y"))},
		{"an empty name", false, behind(field("", "y"))},
		{"a long name", false, behind(field(strings.Repeat("n", 65), "y"))},
		{"connection", false, behind(field("connection", "close"))},
		{"keep-alive", false, behind(field("keep-alive", "5"))},
		{"proxy-connection", false, behind(field("proxy-connection", "close"))},
		{"transfer-encoding", false, behind(field("transfer-encoding", "chunked"))},
		{"upgrade", false, behind(field("upgrade", "h2c"))},
		{"te", false, behind(field("te", "gzip"))},
		{"a value's end", false, behind(field("x", "y "))},
		{"a value's byte", false, behind(field("x", "a\rb"))},
		{"the authority's value", false, func(l []api.Field) []api.Field { return ahead(field(":authority", " a"))(without(l, ":authority")) }},
		{"the path's value", false, changed(":path", "/\n")},
		{"no number", false, behind(field("content-length", "x"))},
		{"two lengths", false, func(l []api.Field) []api.Field {
			return with(l, field("content-length", "0"), field("content-length", "7"))
		}},
		{"a length at the end", true, behind(field("content-length", "5"))},
	}
}

func TestP17_2EachFaultAlone(t *testing.T) {
	for _, l := range [][]api.Field{get(), with(get(), field(":authority", "h"), field("x", "y"), field("content-length", "0"))} {
		wantModel(t, l)
		for _, x := range oneFaults() {
			bad := x.do(l)
			wantRead(t, bad, true, request.Request{}, false)
			if !x.end {
				wantRead(t, bad, false, request.Request{}, false)
			}
			if fault(bad, true) == "" {
				t.Errorf("%s is no fault", x.name)
			}
		}
	}
	wantRead(t, with(get(), field("content-length", "5")), false, request.Request{Method: "GET", Scheme: "https", Path: "/", Length: 5, Rank: 3}, true)
}

// Each two faults at once, in both orders; and each three, where the model finds one still (a fault may mend another).
func TestP17_2EachTwoFaultsAtOnce(t *testing.T) {
	base := with(get(), field(":authority", "h"), field("x", "y"))
	pairs := 0
	for _, a := range oneFaults() {
		for _, b := range oneFaults() {
			bad := b.do(a.do(base))
			if fault(bad, true) == "" {
				continue
			}
			pairs++
			wantModel(t, bad)
			wantRead(t, bad, true, request.Request{}, false)
			if !a.end || !b.end {
				wantRead(t, bad, false, request.Request{}, fault(bad, false) == "")
			}
			for _, c := range oneFaults() {
				wantModel(t, c.do(bad))
			}
		}
	}
	if all := len(oneFaults()) * len(oneFaults()); pairs < all-12 {
		t.Errorf("%d of %d pairs are faulty", pairs, all)
	}
}

// palette are fields of which requests are made: many right ones, some that are wrong, some that are wrong beside others.
func palette() []api.Field {
	l := []api.Field{
		field(":method", "GET"), field(":method", "POST"), field(":method", "OPTIONS"), field(":scheme", "https"), field(":scheme", "http"), field(":path", "/"), field(":path", "/a b"), field(":path", "*"), field(":authority", "h"), field(":authority", ""),
		field("host", "i"), field("host", ""), field("host", "j"), field("content-length", "0"), field("content-length", "0"), field("content-length", "5"), field("te", "trailers"), field("priority", "u=1"), field("priority", "u=7,i"), field("priority", "i"), field("priority", "u=3"),
		field("x", "y"), field("x", ""), field("accept", "a, b"), field("cookie", "\xff"), field("trailer", "te"),
	}
	return append(l, field("te", "gzip"), field("X", "y"), field("", ""), field("upgrade", "x"), field("x", " "), field("x", "a\x00"), field(":status", "200"), field("content-length", "05"))
}

// mixed is a request of a method, a scheme, a path, sometimes a host, and others; now and then with a wrong field, or an order that is none.
func mixed(r *rand.Rand) []api.Field {
	of := palette()
	pick := func(from, to int) api.Field { return of[from+r.Intn(to-from)] }
	l := []api.Field{pick(0, 3), pick(3, 5), pick(5, 8)}
	if r.Intn(2) == 0 {
		l = append(l, pick(8, 10))
	}
	r.Shuffle(len(l), func(i, j int) { l[i], l[j] = l[j], l[i] })
	for range r.Intn(6) {
		l = append(l, pick(10, 26))
	}
	switch r.Intn(6) {
	case 0:
		l = putAt(l, r.Intn(len(l)+1), pick(0, len(of)))
	case 1:
		l = slices.Delete(l, 0, 1)
	case 2:
		r.Shuffle(len(l), func(i, j int) { l[i], l[j] = l[j], l[i] })
	}
	return l
}

func TestP17_2ManyRequestsAgainstTheModel(t *testing.T) {
	r := rand.New(rand.NewSource(17))
	rights, wrongs := 0, 0
	for range 100000 {
		l := mixed(r)
		wantModel(t, l)
		if fault(l, false) == "" {
			rights++
		} else {
			wrongs++
		}
	}
	if rights < 20000 || wrongs < 20000 {
		t.Errorf("%d right ones, %d wrong ones", rights, wrongs)
	}
}

// One byte of a name or a value is another one.
func TestP17_2ManyBytesAgainstTheModel(t *testing.T) {
	r := rand.New(rand.NewSource(18))
	for range 100000 {
		l := mixed(r)
		if len(l) == 0 {
			continue
		}
		f := &l[r.Intn(len(l))]
		s := &f.Name
		if r.Intn(2) == 0 {
			s = &f.Value
		}
		b := append([]byte(*s), 0)
		at := r.Intn(len(b))
		b[at] = byte(r.Intn(256))
		*s = string(b[:len(b)-r.Intn(2)])
		wantModel(t, l)
		wantTrailers(t, l, modelTrailers(l))
	}
}

func TestP17_2LongLists(t *testing.T) {
	l := get()
	for n := range 50000 {
		l = append(l, field("x-"+strconv.Itoa(n), strconv.Itoa(n)))
	}
	wantRight(t, l, plain())
	wantTrailers(t, l[3:], true)
	wantWrong(t, with(l, field("upgrade", "x")))
	wantWrong(t, with(l, field(":authority", "x")))
	wantTrailers(t, with(l[3:], field("te", "trailers")), false)
	q := plain()
	q.Host, q.Length, q.Rank = "h", 0, 5
	wantRight(t, with(l, field("host", "h"), field("content-length", "0"), field("priority", "u=5")), q)
}

// What Read answers of one list is nothing to the next one.
func TestP17_2CallsHaveNothingInCommon(t *testing.T) {
	long := with(get(), field(":authority", "a"), field("content-length", "0"), field("priority", "u=1"))
	q := plain()
	q.Host, q.Length, q.Rank = "a", 0, 1
	for range 3 {
		wantRight(t, long, q)
		wantRight(t, get(), plain())
		wantWrong(t, get()[:2])
	}
}

func TestP17_3OfNothing(t *testing.T) {
	if !request.Trailers(nil) || !request.Trailers([]api.Field{}) {
		t.Error("no trailers are not right")
	}
}

func TestP17_3Names(t *testing.T) {
	eachByte(func(c string) {
		is := strings.Contains(ofNames, c)
		for _, name := range []string{c, c + "a", "a" + c, "a" + c + "b"} {
			wantTrailers(t, []api.Field{field(name, "v")}, is)
			wantTrailers(t, []api.Field{field("x", "y"), field(name, ""), field("y", "z")}, is)
		}
	})
	for _, n := range []int{1, 2, 63, 64} {
		wantTrailers(t, []api.Field{field(strings.Repeat("n", n), "v")}, true)
	}
	for _, n := range []int{0, 65, 66, 128, 256 + 64, 1 << 16} {
		wantTrailers(t, []api.Field{field(strings.Repeat("n", n), "v")}, false)
	}
	for _, s := range notUTF8 {
		wantTrailers(t, []api.Field{field(s, "v")}, false)
		wantTrailers(t, []api.Field{field("x"+s, "v")}, false)
	}
	for _, name := range []string{"Host", "X", "Te", "TE", "Connection", "x y"} {
		wantTrailers(t, []api.Field{field(name, "v")}, false)
	}
}

func TestP17_3NamesWithAColon(t *testing.T) {
	for _, name := range slices.Concat(colons, []string{":", "::", ":status", ":x", ":Method", ":te"}) {
		for _, value := range []string{"", "GET", "/", "https", "trailers"} {
			wantTrailers(t, []api.Field{field(name, value)}, false)
			wantTrailers(t, []api.Field{field(name, value), field("x", "y")}, false)
			wantTrailers(t, []api.Field{field("x", "y"), field(name, value)}, false)
		}
	}
	wantTrailers(t, get(), false)
}

func TestP17_3Values(t *testing.T) {
	eachByte(func(c string) {
		for _, x := range []struct {
			value string
			is    bool
		}{
			{c, !strings.Contains("\x00\n\r \t", c)},
			{c + "b", !strings.Contains("\x00\n\r \t", c)},
			{"a" + c, !strings.Contains("\x00\n\r \t", c)},
			{"a" + c + "b", !strings.Contains("\x00\n\r", c)},
		} {
			wantTrailers(t, []api.Field{field("x", x.value)}, x.is)
			wantTrailers(t, []api.Field{field("a", "b"), field("host", x.value), field("c", "")}, x.is)
		}
	})
	wantTrailers(t, []api.Field{field("x", "")}, true)
	for _, s := range notUTF8 {
		wantTrailers(t, []api.Field{field("x", s)}, true)
	}
	for _, n := range []int{1, 2, 9, 65, 300} {
		right := strings.Repeat("v", n)
		for at := range n {
			for _, c := range []string{"\x00", "\n", "\r", " ", "\t"} {
				l := []api.Field{field("x", right[:at]+c+right[at+1:])}
				wantTrailers(t, l, modelTrailers(l))
			}
		}
	}
}

func TestP17_3TE(t *testing.T) {
	whole := []api.Field{field("a", "b"), field("x", "y")}
	for at := range len(whole) + 1 {
		for _, value := range []string{"trailers", "", "gzip", "Trailers", "trailers, gzip"} {
			wantTrailers(t, putAt(whole, at, field("te", value)), false)
			wantTrailers(t, putAt(whole, at, field("te", value), field("te", value)), false)
		}
	}
	wantTrailers(t, []api.Field{field("te", "trailers")}, false)
	for _, name := range []string{"t", "e", "tee", "te-", "xte", "trailer", "trailers"} {
		wantTrailers(t, []api.Field{field(name, "te")}, true)
	}
}

func TestP17_3NamesThatMayNotStandThere(t *testing.T) {
	whole := []api.Field{field("a", "b"), field("x", "y")}
	for _, name := range ofConnection {
		for _, value := range []string{"", "close", "trailers", "x"} {
			for at := range len(whole) + 1 {
				wantTrailers(t, putAt(whole, at, field(name, value)), false)
			}
			wantTrailers(t, []api.Field{field(name, value)}, false)
		}
		for _, near := range []string{name + "s", "x-" + name, name[1:], name[:len(name)-1]} {
			wantTrailers(t, []api.Field{field(near, "close")}, !slices.Contains(ofConnection, near))
		}
	}
}

// What a request's fields tell by their values counts for nothing in trailers: any right value may stand there.
func TestP17_3NamesThatMayStandThere(t *testing.T) {
	for _, name := range []string{"content-length", "host", "priority", "x", "grpc-status", "cookie", "trailer", "accept"} {
		for _, value := range []string{"", "0", "12", "x", "05", "u=9"} {
			wantTrailers(t, []api.Field{field(name, value)}, true)
			wantTrailers(t, []api.Field{field(name, value), field(name, "13")}, true)
		}
		wantTrailers(t, []api.Field{field(name, " 12")}, false)
		wantTrailers(t, []api.Field{field(name, "1\n")}, false)
	}
}

func TestP17_3AgainstTheModel(t *testing.T) {
	r := rand.New(rand.NewSource(19))
	of := palette()
	rights := 0
	for range 100000 {
		var l []api.Field
		for range r.Intn(6) {
			from := 10 * min(1, r.Intn(20))
			l = append(l, of[from+r.Intn(len(of)-from)])
		}
		wantTrailers(t, l, modelTrailers(l))
		if modelTrailers(l) {
			rights++
		}
	}
	if rights < 10000 || rights > 90000 {
		t.Errorf("%d of them are right", rights)
	}
}

func wantFields(t *testing.T, q request.Request, want ...api.Field) {
	t.Helper()
	if got := request.Fields(q); !slices.Equal(got, want) {
		t.Errorf("Fields(%+v) = %s, want %s", q, show(got), show(want))
	}
}

func TestP17_4AllFields(t *testing.T) {
	wantFields(t, request.Request{Method: "POST", Scheme: "http", Path: "/a", Host: "h", Length: 12, Rank: 0},
		field(":method", "POST"), field(":scheme", "http"), field(":path", "/a"), field(":authority", "h"), field("content-length", "12"), field("priority", "u=0"))
}

// Each of the fields that may lack lacking, alone and with others.
func TestP17_4FieldsThatLack(t *testing.T) {
	for n := range 8 {
		q, want := plain(), get()
		if n&1 != 0 {
			q.Host = "example.org"
			want = append(want, field(":authority", "example.org"))
		}
		if n&2 != 0 {
			q.Length = 77
			want = append(want, field("content-length", "77"))
		}
		if n&4 != 0 {
			q.Rank = 6
			want = append(want, field("priority", "u=6"))
		}
		wantFields(t, q, want...)
	}
	wantFields(t, request.Request{Length: -1, Rank: 3}, field(":method", ""), field(":scheme", ""), field(":path", ""))
	wantFields(t, request.Request{}, field(":method", ""), field(":scheme", ""), field(":path", ""), field("content-length", "0"), field("priority", "u=0"))
}

func TestP17_4Length(t *testing.T) {
	for _, n := range []int{0, 1, 9, 10, 12, 65535, 999999999, 1000000000, 4294967296, math.MaxInt} {
		q := plain()
		q.Length = n
		wantFields(t, q, with(get(), field("content-length", strconv.FormatInt(int64(n), 10)))...)
	}
	wantFields(t, request.Request{Method: "GET", Scheme: "https", Path: "/", Length: math.MaxInt64, Rank: 3}, with(get(), field("content-length", "9223372036854775807"))...)
	for _, n := range []int{-1, -2, -12, -999999999, -4294967296, math.MinInt + 1, math.MinInt} {
		q := plain()
		q.Length = n
		wantFields(t, q, get()...)
	}
}

func TestP17_4Rank(t *testing.T) {
	for rank, value := range map[int]string{
		0: "u=0", 1: "u=1", 2: "u=2", 4: "u=4", 5: "u=5", 6: "u=6", 7: "u=7", 8: "u=8", 9: "u=9", 10: "u=10", 33: "u=33", 256: "u=256", 259: "u=259", 4294967299: "u=4294967299",
		-1: "u=-1", -3: "u=-3", -253: "u=-253", math.MaxInt64: "u=9223372036854775807", math.MinInt64: "u=-9223372036854775808",
	} {
		q := plain()
		q.Rank = rank
		wantFields(t, q, with(get(), field("priority", value))...)
	}
	wantFields(t, plain(), get()...)
}

// The texts stand there as they are, right or not, and no field is one that no table may hold.
func TestP17_4TextsAsTheyAre(t *testing.T) {
	for _, s := range slices.Concat(notUTF8, []string{"", " ", "\x00", "a\nb", "*", ":", strings.Repeat("v", 1<<16)}) {
		want := asking(s, s+"1", s+"2")
		wantFields(t, request.Request{Method: s, Scheme: s + "1", Path: s + "2", Host: s + "3", Length: -1, Rank: 3}, append(want, field(":authority", s+"3"))...)
	}
}

func TestP17_4AnswersNewMemory(t *testing.T) {
	for _, q := range []request.Request{plain(), {}, {Method: "A", Scheme: "B", Path: "C", Host: "D", Length: 5, Rank: 6}} {
		first, second := request.Fields(q), request.Fields(q)
		was := slices.Clone(second)
		first = first[:cap(first)]
		for i := range first {
			first[i] = api.Field{Name: "x", Value: "y", Never: true}
		}
		if !slices.Equal(second, was) || !slices.Equal(request.Fields(q), was) {
			t.Errorf("two answers of Fields(%+v) share their memory", q)
		}
	}
}

// wantAgain holds that what is read of fields is read of its own fields, as it was.
func wantAgain(t *testing.T, l []api.Field, end bool) {
	t.Helper()
	q, is := request.Read(l, end)
	if !is {
		return
	}
	if again, is := request.Read(request.Fields(q), end); again != q || !is {
		t.Errorf("Read(%s, %t) = %+v, but read of its fields it is %+v %t", show(l), end, q, again, is)
	}
}

func TestP17_5EachRequestIsReadFromItsFields(t *testing.T) {
	lengths := []int{-1, 0, 1, 9, 10, 65535, 100000000, most}
	hosts := []string{"", "h", "example.org:443", "A b", "\xff", "\x01", ",", strings.Repeat("h", 300)}
	paths := []string{"/", "/a?b", "/a b", "/\xff", "/" + strings.Repeat("p", 300)}
	for _, method := range []string{"GET", "get", "OPTIONS", "1", "!", strings.Repeat("G", 64)} {
		for _, scheme := range []string{"http", "https"} {
			for _, path := range append(paths, "*") {
				if path == "*" && method != "OPTIONS" {
					continue
				}
				for _, host := range hosts {
					for _, length := range lengths {
						for rank := range 8 {
							q := request.Request{Method: method, Scheme: scheme, Path: path, Host: host, Length: length, Rank: rank}
							l := request.Fields(q)
							wantRead(t, l, false, q, true)
							if length <= 0 {
								wantRead(t, l, true, q, true)
							} else {
								wantRead(t, l, true, request.Request{}, false)
							}
						}
					}
				}
			}
		}
	}
}

func TestP17_5WhatWasReadIsReadAgain(t *testing.T) {
	for _, l := range [][]api.Field{
		get(),
		asking("OPTIONS", "http", "*"),
		with(get(), field("host", "i")),
		with(get(), field("host", "i"), field("host", "j")),
		with(get(), field("host", "")),
		with(get(), field(":authority", "")),
		with(get(), field(":authority", ""), field("host", "i")),
		with(get(), field("content-length", "0")),
		with(get(), field("content-length", "0"), field("content-length", "0")),
		with(get(), field("content-length", "999999999")),
		with(get(), field("priority", "u=0")),
		with(get(), field("priority", "u=7, i"), field("priority", "u=2")),
		with(get(), field("priority", "u=3")),
		with(get(), field("priority", "i")),
		with(get(), field("te", "trailers"), field("host", "i"), field("content-length", "0"), field("priority", "u=5,i"), field("x", "y")),
	} {
		if _, is := request.Read(l, false); !is {
			t.Errorf("%s is not right", show(l))
		}
		wantAgain(t, l, false)
		wantAgain(t, l, true)
	}
	r := rand.New(rand.NewSource(20))
	for range 100000 {
		l := mixed(r)
		wantAgain(t, l, false)
		wantAgain(t, l, true)
	}
}

// Other right fields behind change nothing, but for host (where there is no authority), content-length and priority, as the chapter says.
func TestP17_5OtherFieldsBehind(t *testing.T) {
	r := rand.New(rand.NewSource(21))
	others := []api.Field{field("x", "y"), field("accept", ""), field("te", "trailers"), field("cookie", "a=b; c"), field("method", "PUT"), field("path", "*"), field("authority", "z"), field("trailer", "te"), field("hosts", "i"), field("rank", "u=6"), field("1", "\xff")}
	for range 20000 {
		l := mixed(r)
		for _, end := range []bool{false, true} {
			q, is := request.Read(l, end)
			if !is {
				continue
			}
			own := request.Fields(q)
			for range r.Intn(5) {
				own = append(own, others[r.Intn(len(others))])
			}
			wantRead(t, own, end, q, true)
			hosted := q
			if q.Host == "" {
				hosted.Host = "late"
			}
			wantRead(t, with(own, field("host", "late"), field("host", "later")), end, hosted, true)
			ranked := q
			if q.Rank == 3 {
				ranked.Rank = 5
			}
			wantRead(t, with(own, field("priority", "u=5"), field("priority", "u=6")), end, ranked, true)
			if q.Length < 0 {
				sized := q
				sized.Length = 0
				wantRead(t, with(own, field("content-length", "0")), end, sized, true)
			} else {
				wantRead(t, with(own, field("content-length", strconv.Itoa(q.Length))), end, q, true)
				wantRead(t, with(own, field("content-length", strconv.Itoa(q.Length+1))), end, request.Request{}, false)
			}
		}
	}
}
