package response_test

import (
	"bytes"
	"math"
	"math/big"
	"math/rand"
	"slices"
	"strconv"
	"strings"
	"testing"

	"footman/api"
	"footman/response"
)

const (
	alphabet = "abcdefghijklmnopqrstuvwxyz"
	most     = 999999999
	mostOut  = 65536
)

// statuses are around both bounds of a status, between them, and far outside.
var statuses = []int{
	math.MinInt, math.MinInt + 1, math.MinInt + 200, -1<<32 + 200, -1 << 31, -600, -599, -200, -100, -99, -1, 0, 1, 9, 10, 98, 99,
	100, 101, 200, 204, 404, 429, 503, 598, 599, 600, 601, 999, 1000, 1 << 16, 1<<16 + 200, 1<<32 + 200, math.MaxInt - 200, math.MaxInt - 1, math.MaxInt,
}

// sizes are around both bounds of a length and a retry, between them, and far outside.
var sizes = []int{
	math.MinInt, math.MinInt + 1, -1 << 32, -1<<32 + 5, -most - 1, -most, -2, -1, 0, 1, 2, 9, 10, 65536, most - 1, most,
	most + 1, most + 2, 1<<31 - 1, 1 << 31, 1<<32 - 1, 1 << 32, 1<<32 + 5, 1 << 40, math.MaxInt - 1, math.MaxInt,
}

// lengths are numbers of one to nine digits: the least and the greatest one of each, and one between.
var lengths = []int{
	0, 1, 7, 9, 10, 42, 99, 100, 305, 999, 1000, 1234, 9999, 10000, 65536, 99999, 100000, 123456, 999999,
	1000000, 7654321, 9999999, 10000000, 12345678, 99999999, 100000000, 123456789, most - 1, most,
}

// froms are places from which on a body may be asked, up to the last one that an int can tell.
var froms = []int{
	0, 1, 2, 12, 13, 24, 25, 26, 27, 51, 52, 53, 1023, 1024, 65535, 65536, 65537, most, 1<<31 - 1, 1 << 31, 1<<32 - 1, 1 << 32, 1<<32 + 25, 1 << 53, 1 << 62,
	math.MaxInt - 65536, math.MaxInt - 65535, math.MaxInt - 53, math.MaxInt - 52, math.MaxInt - 27, math.MaxInt - 26, math.MaxInt - 25, math.MaxInt - 24, math.MaxInt - 2, math.MaxInt - 1, math.MaxInt,
}

// below are numbers below 0.
var below = []int{math.MinInt, math.MinInt + 1, math.MinInt + 26, -1<<32 - 1, -1 << 32, -1<<32 + 1, -65536, -53, -52, -27, -26, -25, -2, -1}

func field(name, value string) api.Field { return api.Field{Name: name, Value: value} }

// of is a list of names and values by turns.
func of(s ...string) []api.Field {
	var l []api.Field
	for i := 0; i < len(s); i += 2 {
		l = append(l, field(s[i], s[i+1]))
	}
	return l
}

func putAt(l []api.Field, at int, more ...api.Field) []api.Field {
	return slices.Insert(slices.Clone(l), at, more...)
}

func show(l []api.Field) string {
	s := strconv.Itoa(len(l)) + "["
	for _, f := range l[:min(len(l), 12)] {
		s += " " + strconv.Quote(f.Name) + "=" + strconv.Quote(f.Value)
	}
	return s + " ]"
}

// shorten is the beginning of long bytes.
func shorten(b []byte) string {
	return strconv.Quote(string(b[:min(len(b), 60)])) + " of " + strconv.Itoa(len(b))
}

func modelCheck(x response.Response) api.Errno {
	length, retry := strconv.Itoa(x.Length), strconv.Itoa(x.Retry)
	isOut := x.Status <= 99 || x.Status >= 600
	if isOut || length[0] == '-' || retry[0] == '-' || len(length) > 9 || len(retry) > 9 {
		return 8
	}
	return 0
}

// modelNumber: a number is told just as its digits are told back.
func modelNumber(s string) (int, bool) {
	n, err := strconv.Atoi(s)
	if err != nil || n < 0 || n > most || strconv.Itoa(n) != s {
		return 0, false
	}
	return n, true
}

// valuesOf are the values of a name's fields, in order.
func valuesOf(l []api.Field, name string) []string {
	var values []string
	for _, f := range l {
		if f.Name == name {
			values = append(values, f.Value)
		}
	}
	return values
}

// numberFault tells what the chapter refuses of a name that may stand there once.
func numberFault(l []api.Field, name string) string {
	values := valuesOf(l, name)
	if len(values) > 1 {
		return strconv.Itoa(len(values)) + " of " + name
	}
	for _, s := range values {
		if _, is := modelNumber(s); !is {
			return name + " is no number"
		}
	}
	return ""
}

// fault tells the first thing that the chapter refuses in an answer's fields; nothing, if they are right.
func fault(l []api.Field) string {
	if len(l) == 0 {
		return "no fields"
	}
	if l[0].Name != ":status" {
		return "another one ahead"
	}
	s := l[0].Value
	if len(s) != 3 || s[0] < '1' || s[0] > '5' || strings.Trim(s, "0123456789") != "" {
		return "the status"
	}
	for _, f := range l[1:] {
		if f.Name != "" && f.Name[0] == ':' {
			return "another colon"
		}
	}
	return numberFault(l, "content-length") + numberFault(l, "retry-after")
}

func modelRead(l []api.Field) (response.Response, bool) {
	if fault(l) != "" {
		return response.Response{}, false
	}
	numberOf := func(name string) int {
		n, _ := strconv.Atoi(append(valuesOf(l, name), "0")[0])
		return n
	}
	return response.Response{Status: numberOf(":status"), Length: numberOf("content-length"), Retry: numberOf("retry-after")}, true
}

// modelBody is cut out of the alphabet, one behind the other; the place is reckoned without range.
func modelBody(from, n int) string {
	if from < 0 || n < 1 || n > mostOut {
		return ""
	}
	at := int(new(big.Int).Mod(big.NewInt(int64(from)), big.NewInt(26)).Int64())
	return strings.Repeat(alphabet, n/26+2)[at:][:n]
}

// modelWait is the seconds that went by, and one more, if ticks are left; reckoned without range.
func modelWait(ticks, per int) int {
	if ticks < 1 || per < 1 {
		return 0
	}
	whole, left := new(big.Int).DivMod(big.NewInt(int64(ticks)), big.NewInt(int64(per)), new(big.Int))
	return int(whole.Int64()) + left.Sign()
}

func wantCheck(t *testing.T, x response.Response, want api.Errno) {
	t.Helper()
	if e := response.Check(x); e != want {
		t.Errorf("Check(%+v) = %d, want %d", x, e, want)
	}
}

func wantFields(t *testing.T, x response.Response, want ...api.Field) {
	t.Helper()
	if l, e := response.Fields(x); !slices.Equal(l, want) || e != 0 {
		t.Errorf("Fields(%+v) = %s, %d, want %s", x, show(l), e, show(want))
	}
}

// wantNoFields holds that there is an error, and nothing beside it.
func wantNoFields(t *testing.T, x response.Response, want api.Errno) {
	t.Helper()
	if l, e := response.Fields(x); l != nil || e != want {
		t.Errorf("Fields(%+v) = %s, %d, want none, and %d", x, show(l), e, want)
	}
}

// roomy is a list that has room behind it, in which fields stand that would change each answer.
func roomy(l []api.Field) []api.Field {
	behind := of(":status", "201", "content-length", "77", "retry-after", "88", ":", "")
	return append(slices.Clip(slices.Clone(l)), behind...)[:len(l)]
}

// wantRead holds Read of a list with room behind it, and that list and room stay as they were.
func wantRead(t *testing.T, l []api.Field, x response.Response, is bool) {
	t.Helper()
	came := roomy(l)
	was := slices.Clone(came[:cap(came)])
	if gotX, gotIs := response.Read(came); gotX != x || gotIs != is {
		t.Errorf("Read(%s) = %+v %t, want %+v %t", show(l), gotX, gotIs, x, is)
	}
	if !slices.Equal(came[:cap(came)], was) {
		t.Errorf("Read(%s) changed what came in", show(l))
	}
}

func wantRight(t *testing.T, l []api.Field, status, length, retry int) {
	t.Helper()
	wantRead(t, l, response.Response{Status: status, Length: length, Retry: retry}, true)
}

func wantWrong(t *testing.T, l []api.Field) {
	t.Helper()
	wantRead(t, l, response.Response{}, false)
}

func wantModel(t *testing.T, l []api.Field) {
	t.Helper()
	x, is := modelRead(l)
	wantRead(t, l, x, is)
}

func wantBody(t *testing.T, from, n int, want string) {
	t.Helper()
	got := response.Body(from, n)
	if string(got) != want {
		t.Errorf("Body(%d, %d) = %s, want %s", from, n, shorten(got), shorten([]byte(want)))
	}
	if want == "" && got != nil {
		t.Errorf("Body(%d, %d) is none, but not nil", from, n)
	}
}

// wantWhole holds Whole of bytes with room behind them, and that bytes and room stay as they were.
func wantWhole(t *testing.T, b string, from int, want bool) {
	t.Helper()
	came := append([]byte(b), "abcdefg"...)[:len(b)]
	was := bytes.Clone(came[:cap(came)])
	if is := response.Whole(came, from); is != want {
		t.Errorf("Whole(%s, %d) = %t, want %t", shorten([]byte(b)), from, is, want)
	}
	if !bytes.Equal(came[:cap(came)], was) {
		t.Errorf("Whole(%s, %d) changed what came in", shorten([]byte(b)), from)
	}
}

func wantWait(t *testing.T, ticks, per, want int) {
	t.Helper()
	if n := response.Wait(ticks, per); n != want {
		t.Errorf("Wait(%d, %d) = %d, want %d", ticks, per, n, want)
	}
}

func TestP18_1CheckOfOneNumberAlone(t *testing.T) {
	for _, n := range statuses {
		want := api.ErrRange
		if n >= 100 && n <= 599 {
			want = api.OK
		}
		wantCheck(t, response.Response{Status: n}, want)
		wantCheck(t, response.Response{Status: n, Length: most, Retry: most}, want)
	}
	for _, n := range sizes {
		want := api.ErrRange
		if n >= 0 && n <= 999999999 {
			want = api.OK
		}
		wantCheck(t, response.Response{Status: 100, Length: n}, want)
		wantCheck(t, response.Response{Status: 100, Retry: n}, want)
		wantCheck(t, response.Response{Status: 599, Length: n, Retry: most}, want)
		wantCheck(t, response.Response{Status: 599, Length: most, Retry: n}, want)
	}
	wantCheck(t, response.Response{}, api.ErrRange)
}

func TestP18_1CheckOfEachStatus(t *testing.T) {
	for n := -2000; n < 3000; n++ {
		wantCheck(t, response.Response{Status: n, Length: 5, Retry: 7}, modelCheck(response.Response{Status: n}))
	}
}

func TestP18_1CheckOfAllTogether(t *testing.T) {
	for _, status := range statuses {
		for _, length := range sizes {
			for _, retry := range sizes {
				x := response.Response{Status: status, Length: length, Retry: retry}
				want := modelCheck(x)
				wantCheck(t, x, want)
				if want != api.OK {
					wantNoFields(t, x, want)
				}
			}
		}
	}
}

func TestP18_1FieldsAsTheExampleTells(t *testing.T) {
	wantFields(t, response.Response{Status: 503, Length: 0, Retry: 2}, of(":status", "503", "content-length", "0", "retry-after", "2")...)
}

func TestP18_1FieldsOfEachStatus(t *testing.T) {
	for n := 100; n <= 599; n++ {
		wantFields(t, response.Response{Status: n}, of(":status", strconv.Itoa(n), "content-length", "0")...)
		wantFields(t, response.Response{Status: n, Length: 5, Retry: 30}, of(":status", strconv.Itoa(n), "content-length", "5", "retry-after", "30")...)
	}
	for _, n := range []int{99, 600, -200, 0} {
		wantNoFields(t, response.Response{Status: n, Length: 5, Retry: 30}, api.ErrRange)
	}
}

// The digits are told here one by one, so that they hang on no other teller.
func TestP18_1FieldsOfOneToNineDigits(t *testing.T) {
	n, digits := 0, ""
	for i := range 9 {
		n, digits = n*10+i+1, digits+digit(i+1)
		wantFields(t, response.Response{Status: 200, Length: n}, of(":status", "200", "content-length", digits)...)
		wantFields(t, response.Response{Status: 200, Retry: n}, of(":status", "200", "content-length", "0", "retry-after", digits)...)
		wantFields(t, response.Response{Status: 200, Length: n, Retry: n}, of(":status", "200", "content-length", digits, "retry-after", digits)...)
	}
	power, digits := 1, "1"
	for range 9 {
		wantFields(t, response.Response{Status: 200, Length: power, Retry: power}, of(":status", "200", "content-length", digits, "retry-after", digits)...)
		power, digits = power*10, digits+"0"
	}
	nines, digits := 9, "9"
	for range 9 {
		wantFields(t, response.Response{Status: 200, Length: nines, Retry: nines}, of(":status", "200", "content-length", digits, "retry-after", digits)...)
		nines, digits = nines*10+9, digits+"9"
	}
}

func digit(n int) string { return "0123456789"[n : n+1] }

func TestP18_1RetryStandsThereAboveNoughtAlone(t *testing.T) {
	for _, length := range lengths {
		value := strconv.Itoa(length)
		wantFields(t, response.Response{Status: 429, Length: length}, of(":status", "429", "content-length", value)...)
		for _, retry := range lengths[1:] {
			wantFields(t, response.Response{Status: 429, Length: length, Retry: retry}, of(":status", "429", "content-length", value, "retry-after", strconv.Itoa(retry))...)
		}
	}
}

func TestP18_1FieldsAreNewEachTime(t *testing.T) {
	for _, x := range []response.Response{{Status: 200}, {Status: 503, Length: 4, Retry: 2}} {
		one, _ := response.Fields(x)
		two, _ := response.Fields(x)
		was := slices.Clone(two)
		one = one[:cap(one)]
		for i := range one {
			one[i] = api.Field{Name: "x", Value: "y", Never: true}
		}
		if !slices.Equal(two, was) {
			t.Errorf("two answers of Fields(%+v) share their memory", x)
		}
		wantFields(t, x, was...)
	}
}

func TestP18_2OfNothing(t *testing.T) {
	for _, l := range [][]api.Field{nil, {}} {
		if x, is := response.Read(l); x != (response.Response{}) || is {
			t.Errorf("Read of no fields = %+v %t", x, is)
		}
	}
	wantWrong(t, nil)
}

func TestP18_2StatusStandsAhead(t *testing.T) {
	wantRight(t, of(":status", "200"), 200, 0, 0)
	wantRight(t, of(":status", "200", "x", "y"), 200, 0, 0)
	for _, name := range []string{"", "x", ":", ":x", "status", ":Status", ":STATUS", ":statu", ":status ", " :status", "::status", ":statuses", "content-length", "retry-after", ":method", "\xff"} {
		wantWrong(t, of(name, "200"))
		wantWrong(t, of(name, "200", ":status", "200"))
		wantWrong(t, of(name, "1", ":status", "200", "content-length", "1"))
		wantWrong(t, of(name, "1", "x", "y", ":status", "200"))
	}
}

func TestP18_2EachStatus(t *testing.T) {
	for n := range 2000 {
		s := strconv.Itoa(n)
		if n >= 100 && n <= 599 {
			wantRight(t, of(":status", s), n, 0, 0)
			wantRight(t, of(":status", s, "content-length", "5", "retry-after", "7"), n, 5, 7)
		} else {
			wantWrong(t, of(":status", s))
			wantWrong(t, of(":status", s, "content-length", "5", "retry-after", "7"))
		}
	}
	for _, s := range []string{
		"", "2", "20", "2000", "0200", "00200", "099", "020", "002", "000", "0", "00", "0100", "100 ", " 100", "99", "600", "999", "1000", "20000", "200200", "4294967496",
		"18446744073709551816", "-200", "+200", "-20", "+20", "2.0", "2e2", "0x1", "1_0", "abc", "20O", "\u0662\u0660\u0660", "\uff12\uff10\uff10", "200\x00", "\x00200", "200\n", "200 OK", strings.Repeat("1", 300),
	} {
		wantWrong(t, of(":status", s))
		wantWrong(t, of(":status", s, "x", "y"))
	}
}

func TestP18_2StatusWithAnotherByteAtEachPlace(t *testing.T) {
	for _, right := range []string{"200", "100", "599", "404"} {
		for at := range 4 {
			for c := range 256 {
				s := string([]byte{byte(c)})
				wantWrong(t, of(":status", right[:at]+s+right[at:]))
				if at < 3 {
					wantModel(t, of(":status", right[:at]+s+right[at+1:]))
				}
			}
			if at < 3 {
				for _, s := range []string{"", " ", "+", "-", "\t", ".", "/", ":", "a", "_", "\xb2"} {
					wantWrong(t, of(":status", right[:at]+s+right[at+1:]))
				}
				wantWrong(t, of(":status", right[:at]+right[at+1:]))
			}
		}
		wantWrong(t, of(":status", "0"+right[1:]))
	}
}

func TestP18_2StatusTwice(t *testing.T) {
	base := of(":status", "200", "content-length", "5", "x", "y", "retry-after", "7")
	for at := range len(base) + 1 {
		for _, s := range []string{"200", "404", "", "600"} {
			wantWrong(t, putAt(base, at, field(":status", s)))
		}
	}
	wantWrong(t, of(":status", "200", ":status", "200"))
	wantWrong(t, of(":status", "", ":status", "200"))
}

func TestP18_2OtherNames(t *testing.T) {
	base := of(":status", "200", "content-length", "5", "x", "y", "retry-after", "7")
	for at := 1; at <= len(base); at++ {
		for _, name := range []string{":", "::", ":x", ":Status", ":status ", ":method", ":path", ":authority", ":content-length", ":retry-after", ":\xff"} {
			for _, value := range []string{"", "200", "5", "x"} {
				wantWrong(t, putAt(base, at, field(name, value)))
			}
		}
		for _, name := range []string{"", " ", " :", "x:", "x", "X", "status", "Content-Length", "CONTENT-LENGTH", "content-length ", " content-length", "content_length", "content-lengt", "ontent-length", "Retry-After", "retry-afte", "retry-after:", "connection", "te", "\x00", "\xff", "a b", strings.Repeat("n", 300)} {
			for _, value := range []string{"", "9", "0", " x ", "a\nb", "\x00"} {
				wantRight(t, putAt(base, at, field(name, value)), 200, 5, 7)
				wantRight(t, putAt(base, at, field(name, value), field(name, value)), 200, 5, 7)
			}
		}
	}
}

// Each byte at a name's beginning: the colon alone is refused.
func TestP18_2NamesOfEachByte(t *testing.T) {
	for c := range 256 {
		for _, behind := range []string{"", "x", ":"} {
			l := of(":status", "301", string([]byte{byte(c)})+behind, "1", "retry-after", "2")
			if c == ':' {
				wantWrong(t, l)
			} else {
				wantRight(t, l, 301, 0, 2)
			}
		}
	}
}

// numbered calls with each of the two names that tell a number, and with what is told of lists of it.
func numbered(call func(name string, right func(t *testing.T, l []api.Field, n int))) {
	call("content-length", func(t *testing.T, l []api.Field, n int) { t.Helper(); wantRight(t, l, 200, n, 0) })
	call("retry-after", func(t *testing.T, l []api.Field, n int) { t.Helper(); wantRight(t, l, 200, 0, n) })
}

func TestP18_2NumbersLackingAndOnce(t *testing.T) {
	numbered(func(name string, right func(t *testing.T, l []api.Field, n int)) {
		right(t, of(":status", "200"), 0)
		right(t, of(":status", "200", "x", "y", "", ""), 0)
		for _, n := range lengths {
			s := strconv.Itoa(n)
			right(t, of(":status", "200", name, s), n)
			right(t, of(":status", "200", "x", "1", name, s, "y", "2"), n)
			right(t, of(":status", "200", "x", "1", "", "2", "y", "3", name, s), n)
			right(t, of(":status", "200", name, s, "x", "1", "y", "2"), n)
		}
	})
}

func TestP18_2NumbersMoreThanOnce(t *testing.T) {
	numbered(func(name string, right func(t *testing.T, l []api.Field, n int)) {
		for _, one := range []string{"0", "1", "5", "999999999", "", "x", "01"} {
			for _, two := range []string{"0", "1", "5", "999999999", "", "x", "01"} {
				wantWrong(t, of(":status", "200", name, one, name, two))
				wantWrong(t, of(":status", "200", name, one, "x", "y", name, two))
				wantWrong(t, of(":status", "200", "x", "y", name, one, "", "", name, two, "z", ""))
				wantWrong(t, of(":status", "200", name, one, name, two, name, one))
			}
		}
	})
}

func TestP18_2WhatIsNoNumber(t *testing.T) {
	numbered(func(name string, right func(t *testing.T, l []api.Field, n int)) {
		for _, s := range []string{
			"", "00", "01", "007", "000000000", "0000000001", "012345678", "1000000000", "9999999999", "0999999999", "4294967296", "18446744073709551616", "18446744073709551621", strings.Repeat("1", 300),
			"-1", "-0", "+1", " 1", "1 ", "\t1", "1\t", "1,1", "1, 1", "1.0", "1e3", "0x1", "1_000", "a", "five", "\x00", "5\x00", "5\n", "\xff", "\u0665", "\uff15", "Fri, 31 Dec 1999 23:59:59 GMT",
		} {
			wantWrong(t, of(":status", "200", name, s))
			wantWrong(t, of(":status", "200", "x", "y", name, s, "z", ""))
		}
		for _, s := range []string{"7", "123", "999999999"} {
			for at := range len(s) + 1 {
				for c := range 256 {
					wantModel(t, of(":status", "200", name, s[:at]+string([]byte{byte(c)})+s[at:]))
					if at < len(s) {
						wantModel(t, of(":status", "200", name, s[:at]+string([]byte{byte(c)})+s[at+1:]))
					}
				}
				for _, c := range []string{" ", "+", "-", ",", ".", "/", ":", "a", "_", "\xb2"} {
					wantWrong(t, of(":status", "200", name, s[:at]+c+s[at:]))
				}
			}
		}
	})
}

func TestP18_2BothNumbers(t *testing.T) {
	for _, length := range lengths {
		for _, retry := range lengths {
			l, r := field("content-length", strconv.Itoa(length)), field("retry-after", strconv.Itoa(retry))
			for _, list := range [][]api.Field{{l, r}, {r, l}, {field("x", "1"), r, field("", "2"), l, field("y", "3")}} {
				wantRight(t, append(of(":status", "418"), list...), 418, length, retry)
			}
		}
	}
}

// A field counts the same whether it is one that no table may hold or not.
func TestP18_2NeverCountsForNothing(t *testing.T) {
	for n := range 8 {
		l := of(":status", "200", "content-length", "5", "retry-after", "7")
		for i := range l {
			l[i].Never = n>>i&1 == 1
		}
		wantRight(t, l, 200, 5, 7)
	}
}

// faults are ways to make right fields wrong, each by itself.
func faults() []func([]api.Field) []api.Field {
	behind := func(name, value string) func([]api.Field) []api.Field {
		return func(l []api.Field) []api.Field { return putAt(l, len(l), field(name, value)) }
	}
	between := func(name, value string) func([]api.Field) []api.Field {
		return func(l []api.Field) []api.Field { return putAt(l, min(1, len(l)), field(name, value)) }
	}
	valued := func(name, value string) func([]api.Field) []api.Field {
		return func(l []api.Field) []api.Field {
			l = slices.Clone(l)
			for i := range l {
				if l[i].Name == name {
					l[i].Value = value
				}
			}
			return l
		}
	}
	list := []func([]api.Field) []api.Field{
		func([]api.Field) []api.Field { return nil },
		func(l []api.Field) []api.Field { return slices.Clone(l[min(1, len(l)):]) },
		func(l []api.Field) []api.Field { return putAt(l, 0, field("x", "y")) },
		func(l []api.Field) []api.Field { return putAt(l, 0, field("", "")) },
		between(":status", "200"), behind(":status", "200"), between(":", ""), behind(":", ""), between(":path", "/"), behind(":x", "1"),
		between("content-length", "5"), behind("content-length", "6"), between("retry-after", "7"), behind("retry-after", "8"),
	}
	for _, s := range []string{"", "2", "20", "2000", "099", "600", "+20", "20 ", "2x0"} {
		list = append(list, valued(":status", s))
	}
	for _, s := range []string{"", "00", "05", "1000000000", "-5", "5 ", "x"} {
		list = append(list, valued("content-length", s), valued("retry-after", s))
	}
	return list
}

func TestP18_2EachFaultAndEachTwo(t *testing.T) {
	for _, base := range [][]api.Field{
		of(":status", "200", "content-length", "5", "retry-after", "7"),
		of(":status", "503", "x", "y", "retry-after", "7", "", "", "content-length", "5", "z", ""),
	} {
		if fault(base) != "" {
			t.Fatalf("%s is not right", show(base))
		}
		for i, one := range faults() {
			wantWrong(t, one(base))
			if fault(one(base)) == "" {
				t.Errorf("the fault %d is none of %s", i, show(base))
			}
			for _, two := range faults() {
				if l := two(one(base)); fault(l) != "" {
					wantWrong(t, l)
				}
			}
		}
	}
}

// small are fields of which all short lists are gone through.
func small() []api.Field {
	return of(":status", "200", ":status", "599", ":status", "600", ":x", "1", "", "2", "x", "3", "content-length", "4", "content-length", "05", "retry-after", "6", "retry-after", "")
}

func TestP18_2AllShortLists(t *testing.T) {
	rights := 0
	var each func(l []api.Field, left int)
	each = func(l []api.Field, left int) {
		wantModel(t, l)
		if fault(l) == "" {
			rights++
		}
		if left == 0 {
			return
		}
		for _, f := range small() {
			each(append(slices.Clip(l), f), left-1)
		}
	}
	each(nil, 4)
	if rights < 50 {
		t.Errorf("%d of them are right", rights)
	}
}

// mixed is a list that is right often enough.
func mixed(r *rand.Rand) []api.Field {
	pick := func(l ...string) string { return l[r.Intn(len(l))] }
	l := of(pick(":status", ":status", ":status", ":status", ":status", "status", ":"), pick("200", "100", "599", strconv.Itoa(100+r.Intn(500)), strconv.Itoa(r.Intn(1200)), "", "020"))
	if r.Intn(3) > 0 {
		l = append(l, field("content-length", pick("0", "7", strconv.Itoa(r.Intn(most+1)), strconv.Itoa(r.Intn(10*most)), "", "08")))
	}
	if r.Intn(2) > 0 {
		l = append(l, field("retry-after", pick("0", "9", strconv.Itoa(r.Intn(most+1)), strconv.Itoa(r.Intn(10*most)), "x", "00")))
	}
	for range r.Intn(4) {
		name := pick("x", "", "server", "Content-Length", "date", "x:", "date", "x", ":x", "content-length", "retry-after")
		l = putAt(l, r.Intn(len(l)+1), field(name, pick("", "1", "a b", "\x00")))
	}
	r.Shuffle(len(l)-1, func(i, j int) { l[i+1], l[j+1] = l[j+1], l[i+1] })
	return l
}

func TestP18_2ManyAgainstTheModel(t *testing.T) {
	r := rand.New(rand.NewSource(18))
	rights, wrongs := 0, 0
	for range 200000 {
		l := mixed(r)
		wantModel(t, l)
		if fault(l) == "" {
			rights++
		} else {
			wrongs++
		}
	}
	if rights < 20000 || wrongs < 20000 {
		t.Errorf("%d right ones, %d wrong ones", rights, wrongs)
	}
}

func TestP18_2LongLists(t *testing.T) {
	l := of(":status", "200")
	for n := range 50000 {
		l = append(l, field("x-"+strconv.Itoa(n), strconv.Itoa(n)))
	}
	wantRight(t, l, 200, 0, 0)
	l = append(l, field("retry-after", "7"), field("content-length", "5"))
	wantRight(t, l, 200, 5, 7)
	wantWrong(t, putAt(l, len(l), field("content-length", "5")))
	wantWrong(t, putAt(l, len(l), field(":x", "")))
}

func TestP18_3BodyAsTheChapterTells(t *testing.T) {
	wantBody(t, 0, 28, "abcdefghijklmnopqrstuvwxyzab")
	wantBody(t, 0, 1, "a")
	wantBody(t, 0, 25, "abcdefghijklmnopqrstuvwxy")
	wantBody(t, 0, 26, "abcdefghijklmnopqrstuvwxyz")
	wantBody(t, 0, 27, "abcdefghijklmnopqrstuvwxyza")
	wantBody(t, 25, 3, "zab")
	wantBody(t, 26, 3, "abc")
	wantBody(t, 27, 3, "bcd")
	// 2^63 - 1 is 7 modulo 26.
	wantBody(t, 9223372036854775807, 20, "hijklmnopqrstuvwxyza")
	wantBody(t, 9223372036854775806, 3, "ghi")
}

func TestP18_3BodyOfEachFromAndN(t *testing.T) {
	for _, from := range slices.Concat(below, froms) {
		for _, n := range []int{math.MinInt, -1 << 32, -mostOut, -26, -1, 0, 1, 2, 3, 24, 25, 26, 27, 28, 51, 52, 53, 1000, mostOut - 1, mostOut, mostOut + 1, mostOut + 26, 1<<31 - 1, 1 << 32, 1<<32 + 1, math.MaxInt - 1, math.MaxInt} {
			wantBody(t, from, n, modelBody(from, n))
		}
	}
	for from := range 100 {
		for n := range 100 {
			wantBody(t, from, n, modelBody(from, n))
		}
	}
}

func TestP18_3BodyIsNone(t *testing.T) {
	for _, from := range froms {
		for _, n := range []int{math.MinInt, -26, -2, -1, 0, mostOut + 1, mostOut + 2, 1 << 32, math.MaxInt} {
			wantBody(t, from, n, "")
		}
	}
	for _, from := range below {
		for _, n := range []int{math.MinInt, -1, 0, 1, 25, 26, 27, mostOut, mostOut + 1, math.MaxInt} {
			wantBody(t, from, n, "")
		}
	}
}

// Each letter is at its place, told byte by byte without the model.
func TestP18_3EachLetter(t *testing.T) {
	for _, from := range []int{0, 1, 25, 26, 1 << 20} {
		b := response.Body(from, mostOut)
		if len(b) != mostOut {
			t.Fatalf("Body(%d, %d) has %d bytes", from, mostOut, len(b))
		}
		for i, c := range b {
			if want := byte('a' + (from+i)%26); c != want {
				t.Fatalf("Body(%d, %d) has %q at %d, want %q", from, mostOut, c, i, want)
			}
		}
	}
	seen := ""
	for from := range 52 {
		seen += string(response.Body(from, 1))
	}
	if seen != alphabet+alphabet {
		t.Errorf("one by one the letters are %q", seen)
	}
}

func TestP18_3BodyIsNewEachTime(t *testing.T) {
	for _, n := range []int{1, 2, 26, 27, 1000, mostOut} {
		one, two := response.Body(3, n), response.Body(3, n)
		clear(one[:cap(one)])
		if string(two) != modelBody(3, n) {
			t.Errorf("two bodies of %d bytes share their memory", n)
		}
		one = append(one, "x"...)
		clear(one[:cap(one)])
		if string(two) != modelBody(3, n) {
			t.Errorf("two bodies of %d bytes share their room", n)
		}
		wantBody(t, 3, n, modelBody(3, n))
		wantWhole(t, modelBody(3, n), 3, true)
	}
}

func TestP18_3WholeOfNothing(t *testing.T) {
	for _, from := range slices.Concat(below, froms) {
		if !response.Whole(nil, from) || !response.Whole([]byte{}, from) {
			t.Errorf("nothing is not Whole from %d on", from)
		}
		wantWhole(t, "", from, true)
	}
}

func TestP18_3WholeOfTheBody(t *testing.T) {
	for _, from := range froms {
		for _, n := range []int{1, 2, 25, 26, 27, 100, mostOut - 1, mostOut} {
			right := modelBody(from, n)
			wantWhole(t, right, from, true)
			for _, wrong := range []string{right + "?", "?" + right, right[:n-1] + "?", right[:n-1] + "\x00", strings.ToUpper(right)} {
				wantWhole(t, wrong, from, false)
			}
		}
		wantWhole(t, modelBody(from, 27)[1:], from, false)
		wantWhole(t, modelBody(from, 26)[:25], from, true)
	}
}

// From another place on the same bytes are right only where whole alphabets lie between.
func TestP18_3WholeFromAnotherPlace(t *testing.T) {
	for from := range 60 {
		for other := range 60 {
			for _, n := range []int{1, 5, 26, 27} {
				wantWhole(t, modelBody(from, n), other, (from-other)%26 == 0)
			}
		}
	}
}

func TestP18_3WholeWithOneByteChanged(t *testing.T) {
	for _, from := range []int{0, 7, 25, 26, math.MaxInt - 3, math.MaxInt} {
		for _, n := range []int{1, 2, 25, 26, 27, 60} {
			right := modelBody(from, n)
			for at := range n {
				for c := range 256 {
					b := []byte(right)
					b[at] = byte(c)
					wantWhole(t, string(b), from, byte(c) == right[at])
				}
			}
		}
	}
	right := modelBody(5, mostOut)
	for _, at := range []int{0, 1, 25, 26, 1024, mostOut / 2, mostOut - 27, mostOut - 2, mostOut - 1} {
		wantWhole(t, right[:at]+"A"+right[at+1:], 5, false)
	}
}

// A byte more is right only if it is the letter that comes next; so is one less at the end, never one at the beginning.
func TestP18_3WholeWithMoreAndLess(t *testing.T) {
	for _, from := range []int{0, 1, 24, 25, 26, 1000, math.MaxInt} {
		for _, n := range []int{1, 2, 25, 26, 27} {
			long := modelBody(from, n+2)
			right := long[:n]
			for c := range 256 {
				more := string([]byte{byte(c)})
				wantWhole(t, right+more, from, more == long[n:n+1])
				wantWhole(t, more+right, from, false)
			}
			wantWhole(t, right[:n-1], from, true)
			wantWhole(t, right[1:], from, n == 1)
		}
	}
}

func TestP18_3WholeFromBelow(t *testing.T) {
	for _, from := range below {
		wantWhole(t, "", from, true)
		for _, b := range []string{"a", "z", "y", "x", "zab", alphabet, modelBody(0, 27), modelBody(25, mostOut)} {
			wantWhole(t, b, from, false)
		}
		for c := range 256 {
			wantWhole(t, string([]byte{byte(c)}), from, false)
		}
	}
}

func TestP18_3WholeOfTooMuch(t *testing.T) {
	long := strings.Repeat(alphabet, 6000)
	for _, n := range []int{mostOut + 1, mostOut + 2, mostOut + 26, 2 * mostOut, len(long) - 1} {
		for _, from := range []int{0, 1, 26} {
			wantWhole(t, long[from%26:][:n], from, false)
		}
	}
	wantWhole(t, long[:mostOut], 0, true)
	wantWhole(t, long[1:][:mostOut], 1, true)
}

func TestP18_4AsTheChapterTells(t *testing.T) {
	wantWait(t, 11, 10, 2)
	wantWait(t, 10, 10, 1)
	wantWait(t, 9, 10, 1)
	wantWait(t, 1, 10, 1)
	wantWait(t, 20, 10, 2)
	wantWait(t, 21, 10, 3)
}

func TestP18_4BelowOne(t *testing.T) {
	outs := []int{math.MinInt, math.MinInt + 1, -1 << 32, -100, -10, -2, -1, 0}
	for _, out := range outs {
		for _, n := range []int{1, 2, 10, 100, 1 << 32, math.MaxInt} {
			wantWait(t, out, n, 0)
			wantWait(t, n, out, 0)
		}
		for _, two := range outs {
			wantWait(t, out, two, 0)
		}
	}
}

func TestP18_4AllSmallOnes(t *testing.T) {
	for ticks := 1; ticks <= 200; ticks++ {
		for per := 1; per <= 210; per++ {
			n := response.Wait(ticks, per)
			if n < 1 || n*per < ticks || n > 1 && (n-1)*per >= ticks {
				t.Errorf("Wait(%d, %d) = %d is not the least one", ticks, per, n)
			}
		}
	}
}

func TestP18_4AroundEachMultiple(t *testing.T) {
	for _, per := range []int{1, 2, 3, 7, 10, 60, 100, 1000, 1<<16 - 1, 1 << 16, 1 << 31, 1 << 40} {
		for _, times := range []int{1, 2, 3, 9, 10, 100, 1000, 1 << 20} {
			wantWait(t, times*per, per, times)
			wantWait(t, times*per+1, per, times+1)
			if per > 1 {
				wantWait(t, times*per-1, per, times)
				wantWait(t, (times-1)*per+1, per, times)
			}
		}
	}
}

func TestP18_4OneTickASecond(t *testing.T) {
	for _, n := range []int{1, 2, 7, 1000, 1 << 32, 1 << 40, 1 << 53, 1<<53 + 1, 1 << 62, math.MaxInt - 1, math.MaxInt} {
		wantWait(t, n, 1, n)
	}
}

func TestP18_4GreatOnes(t *testing.T) {
	wantWait(t, math.MaxInt, math.MaxInt, 1)
	wantWait(t, math.MaxInt-1, math.MaxInt, 1)
	wantWait(t, 1, math.MaxInt, 1)
	wantWait(t, math.MaxInt, math.MaxInt-1, 2)
	wantWait(t, 9223372036854775807, 2, 4611686018427387904)
	wantWait(t, 9223372036854775806, 2, 4611686018427387903)
	wantWait(t, 9223372036854775807, 10, 922337203685477581)
	for _, ticks := range []int{1<<53 - 1, 1 << 53, 1<<53 + 1, 1 << 62, math.MaxInt - 2, math.MaxInt - 1, math.MaxInt} {
		for _, per := range []int{1, 2, 3, 7, 10, 26, 1 << 31, 1 << 40, 1 << 53, 1 << 62, math.MaxInt - 2, math.MaxInt - 1, math.MaxInt} {
			wantWait(t, ticks, per, modelWait(ticks, per))
		}
	}
	r := rand.New(rand.NewSource(4))
	for range 100000 {
		ticks, per := int(r.Int63()>>r.Intn(63)), int(r.Int63()>>r.Intn(63))
		wantWait(t, ticks, per, modelWait(ticks, per))
	}
}

// wantAgain holds that what is answered is read as it was.
func wantAgain(t *testing.T, x response.Response) {
	t.Helper()
	l, e := response.Fields(x)
	if e != api.OK {
		t.Errorf("Fields(%+v) = %d", x, e)
	}
	wantRead(t, l, x, true)
}

func TestP18_5WhatIsAnsweredIsRead(t *testing.T) {
	for status := 100; status <= 599; status++ {
		for _, length := range []int{0, 5, most} {
			for _, retry := range []int{0, 1, most} {
				wantAgain(t, response.Response{Status: status, Length: length, Retry: retry})
			}
		}
	}
	for _, length := range lengths {
		for _, retry := range lengths {
			wantAgain(t, response.Response{Status: 200, Length: length, Retry: retry})
		}
	}
	r := rand.New(rand.NewSource(5))
	for range 50000 {
		x := response.Response{Status: 100 + r.Intn(500), Length: r.Intn(most+1) >> r.Intn(31)}
		wantAgain(t, x)
		x.Retry = 1 + r.Intn(most)>>r.Intn(31)
		wantAgain(t, x)
	}
}

// What was read is read of its own fields, too, whatever else stood there.
func TestP18_5WhatIsReadIsAnsweredAgain(t *testing.T) {
	r := rand.New(rand.NewSource(6))
	rights := 0
	for range 50000 {
		if x, is := response.Read(mixed(r)); is {
			rights++
			wantAgain(t, x)
		}
	}
	if rights < 5000 {
		t.Errorf("%d of them are right", rights)
	}
}

// wantParts holds that a body put together of the parts between cuts is the body.
func wantParts(t *testing.T, from, n int, cuts ...int) {
	t.Helper()
	var b []byte
	at := 0
	for _, cut := range append(cuts, n) {
		part := response.Body(from+at, cut-at)
		if !response.Whole(part, from+at) {
			t.Errorf("the part from %d to %d of Body(%d, %d) is not Whole", at, cut, from, n)
		}
		b, at = append(b, part...), cut
	}
	if !bytes.Equal(b, response.Body(from, n)) || !response.Whole(b, from) {
		t.Errorf("Body(%d, %d) cut at %v is %s", from, n, cuts, shorten(b))
	}
}

func TestP18_5BodyInTwoAndThreeParts(t *testing.T) {
	for _, from := range []int{0, 1, 25, 26, 27, 1000, 1 << 40, math.MaxInt - 80} {
		for _, n := range []int{1, 2, 25, 26, 27, 53, 80} {
			for one := range n + 1 {
				wantParts(t, from, n, one)
				for two := one; two <= n; two++ {
					wantParts(t, from, n, one, two)
				}
			}
		}
	}
}

func TestP18_5LongBodyInParts(t *testing.T) {
	for _, from := range []int{0, 11} {
		for one := 0; one <= mostOut; one += 509 {
			wantParts(t, from, mostOut, one)
			wantParts(t, from, mostOut, one, one+(mostOut-one)/3)
		}
		var cuts []int
		for at := 0; at < mostOut; at += 1024 {
			cuts = append(cuts, at)
		}
		wantParts(t, from, mostOut, cuts...)
		wantParts(t, from, mostOut, 1)
		wantParts(t, from, mostOut, mostOut-1)
	}
}
