package static_test

import (
	"math"
	"slices"
	"strconv"
	"strings"
	"testing"

	"footman/api"
	"footman/static"
)

// chapterTable is the chapter's table, as it stands there.
const chapterTable = `1 :authority; 2 :method = GET; 3 :method = POST; 4 :path = /; 5 :path = /index.html; 6 :scheme = http; 7 :scheme = https; 8 :status = 200; 9 :status = 204; 10 :status = 206; 11 :status = 304; 12 :status = 400; 13 :status = 404; 14 :status = 500; 15 accept-charset; 16 accept-encoding = gzip, deflate; 17 accept-language; 18 accept-ranges; 19 accept; 20 access-control-allow-origin; 21 age; 22 allow; 23 authorization; 24 cache-control; 25 content-disposition; 26 content-encoding; 27 content-language; 28 content-length; 29 content-location; 30 content-range; 31 content-type; 32 cookie; 33 date; 34 etag; 35 expect; 36 expires; 37 from; 38 host; 39 if-match; 40 if-modified-since; 41 if-none-match; 42 if-range; 43 if-unmodified-since; 44 last-modified; 45 link; 46 location; 47 max-forwards; 48 proxy-authenticate; 49 proxy-authorization; 50 range; 51 referer; 52 refresh; 53 retry-after; 54 server; 55 set-cookie; 56 strict-transport-security; 57 transfer-encoding; 58 user-agent; 59 vary; 60 via; 61 www-authenticate`

const most = 61

// table reads the chapter's: its fields in order, the first one's place 1.
func table(t *testing.T) []api.Field {
	t.Helper()
	var l []api.Field
	for _, row := range strings.Split(chapterTable, "; ") {
		place, field, _ := strings.Cut(row, " ")
		name, value, _ := strings.Cut(field, " = ")
		l = append(l, api.Field{Name: name, Value: value})
		if place != strconv.Itoa(len(l)) {
			t.Fatalf("row %q is the table's row %d", row, len(l))
		}
	}
	if len(l) != most {
		t.Fatalf("the table has %d rows", len(l))
	}
	return l
}

// found is what Find must tell, of a list gone through place by place.
func found(l []api.Field, name, value string) (int, bool) {
	i := slices.Index(l, api.Field{Name: name, Value: value})
	if i >= 0 {
		return i + 1, true
	}
	return 1 + slices.IndexFunc(l, func(f api.Field) bool { return f.Name == name }), false
}

func wantFind(t *testing.T, name, value string, want int, is bool) {
	t.Helper()
	if i, ok := static.Find(name, value); i != want || ok != is {
		t.Errorf("Find(%q, %q) = %d, %t, want %d, %t", name, value, i, ok, want, is)
	}
}

func TestP3_1AtTellsEveryField(t *testing.T) {
	for i, want := range table(t) {
		if f, ok := static.At(i + 1); f != want || !ok {
			t.Errorf("At(%d) = %+v, %t, want %+v", i+1, f, ok, want)
		}
	}
}

func TestP3_1AtWhereNothingIs(t *testing.T) {
	for _, i := range []int{
		0, -1, -2, -60, -61, -62, -256, math.MinInt32, math.MinInt32 + 1, math.MinInt64, math.MinInt64 + 1, math.MinInt64 + 62,
		62, 63, 64, 122, 123, 127, 128, 255, 256, 257, 258, 317, 318, 1<<16 + 1, 1<<16 + 2, api.MaxInt,
		math.MaxInt32, 1 << 32, 1<<32 + 1, 1<<32 + 2, 1<<32 + 61, 1 << 40, math.MaxInt64 - 1, math.MaxInt64,
	} {
		if f, ok := static.At(i); f != (api.Field{}) || ok {
			t.Errorf("At(%d) = %+v, %t, want nothing", i, f, ok)
		}
	}
}

func TestP3_1AllInOrder(t *testing.T) {
	want := table(t)
	if l := static.All(); !slices.Equal(l, want) {
		t.Errorf("All() = %+v, want %+v", l, want)
	}
	if static.Len != most {
		t.Errorf("Len = %d", static.Len)
	}
}

func TestP3_1NeverIsFalse(t *testing.T) {
	for i, f := range static.All() {
		if at, _ := static.At(i + 1); f.Never || at.Never {
			t.Errorf("Never of %d: %t of All, %t of At", i+1, f.Never, at.Never)
		}
	}
}

func TestP3_1AllAnswersNewMemory(t *testing.T) {
	want := table(t)
	l, other := static.All(), static.All()
	l = l[:cap(l)]
	for i := range l {
		l[i] = api.Field{Name: "x", Value: "y", Never: true}
	}
	if !slices.Equal(other, want) {
		t.Error("two answers of All share their memory")
	}
	if !slices.Equal(static.All(), want) {
		t.Error("All changed with an answer of it")
	}
	for i, f := range want {
		if at, ok := static.At(i + 1); at != f || !ok {
			t.Errorf("At(%d) = %+v, %t changed with an answer of All", i+1, at, ok)
		}
		wantFind(t, f.Name, f.Value, i+1, true)
	}
	wantFind(t, "x", "y", 0, false)
}

func TestP3_2FindsEveryField(t *testing.T) {
	for i, f := range table(t) {
		wantFind(t, f.Name, f.Value, i+1, true)
	}
}

func TestP3_2NamesWithValuesThatAreNotThere(t *testing.T) {
	for _, x := range []struct {
		name, value string
		want        int
	}{
		{":authority", "www.example.com", 1},
		{":method", "PUT", 2}, {":method", "HEAD", 2}, {":method", "OPTIONS", 2},
		{":path", "/index", 4}, {":path", "/index.html?", 4}, {":path", "*", 4}, {":path", "//", 4},
		{":scheme", "httpss", 6}, {":scheme", "ftp", 6},
		{":status", "100", 8}, {":status", "201", 8}, {":status", "429", 8}, {":status", "503", 8}, {":status", "50", 8}, {":status", "5000", 8},
		{"accept-encoding", "gzip", 16}, {"accept-encoding", "gzip,deflate", 16}, {"accept-encoding", "gzip, deflate, br", 16},
		{"accept-charset", "utf-8", 15}, {"accept-language", "en", 17}, {"accept", "*/*", 19},
		{"content-length", "0", 28}, {"cookie", "a=b", 32}, {"retry-after", "1", 53}, {"www-authenticate", "Basic", 61},
		// No value, where one stands.
		{":method", "", 2}, {":path", "", 4}, {":scheme", "", 6}, {":status", "", 8}, {"accept-encoding", "", 16},
		// A value that is another name's.
		{":method", "/", 2}, {":method", "200", 2}, {":path", "GET", 4}, {":scheme", "/", 6}, {":status", "GET", 8},
		{":authority", "GET", 1}, {"accept-encoding", "https", 16}, {"accept-charset", "gzip, deflate", 15}, {"accept-language", "gzip, deflate", 17},
		// A value that is nearly there.
		{":method", "get", 2}, {":method", "post", 2}, {":method", "GET ", 2}, {":method", " GET", 2}, {":method", "GET\x00", 2}, {":method", "GE", 2}, {":method", "POSTS", 2},
		{":scheme", "HTTP", 6}, {"cookie", "\x00", 32}, {"cookie", " ", 32}, {":authority", "\xff", 1},
	} {
		wantFind(t, x.name, x.value, x.want, false)
	}
}

// Each name with each value of the table, and with some that stand nowhere: a name that stands at more than one place is found at the first one.
func TestP3_2EveryNameWithEveryValue(t *testing.T) {
	l := table(t)
	values := []string{"", "none", "0", "GET, POST", "\x00", "\xff", "\u00e4", strings.Repeat("v", 1<<16)}
	for _, f := range l {
		values = append(values, f.Value, f.Value+" ", f.Name)
	}
	for _, f := range l {
		for _, value := range values {
			want, is := found(l, f.Name, value)
			wantFind(t, f.Name, value, want, is)
		}
	}
}

func TestP3_2NamesThatAreNotThere(t *testing.T) {
	names := []string{
		"", " ", "\x00", "\xff", ":", "x", "custom-key", "connection", "trailer", "te", "priority", "accept-", "content-", "if-", "proxy-",
		"Cookie", "COOKIE", ":Method", ":METHOD", "Accept", "Www-Authenticate", "method", "path", "scheme", "status", "authority",
		":protocol", "::path", ":method = GET", ":path /", "2", "61", "0",
		"\u00e4ge", "ag\u0435", strings.Repeat("a", 1<<16),
	}
	l := table(t)
	for _, f := range l {
		for _, near := range []string{f.Name + " ", " " + f.Name, f.Name + "\x00", f.Name + "s", f.Name[1:], f.Name[:len(f.Name)-1], strings.ToUpper(f.Name), f.Name + f.Name} {
			if at, _ := found(l, near, ""); at == 0 {
				names = append(names, near)
			}
		}
	}
	for _, name := range names {
		for _, value := range []string{"", "GET", "/", "200", "gzip, deflate", "none", "\x00"} {
			wantFind(t, name, value, 0, false)
		}
		for _, f := range l {
			wantFind(t, name, f.Name, 0, false)
		}
	}
}

func TestP3_3Size(t *testing.T) {
	long := strings.Repeat("l", 1<<20)
	for _, x := range []struct {
		name, value string
		want        int
	}{
		{"", "", 32},
		{"a", "", 33},
		{"", "b", 33},
		{"a", "b", 34},
		{":method", "GET", 42},
		{":authority", "", 42},
		{"accept-encoding", "gzip, deflate", 60},
		{"access-control-allow-origin", "", 59},
		{"custom-key", "custom-header", 55},
		{"\x00", "\x00\x00", 35},
		{"\xff", "\xff\xfe", 35},
		{"\u00e4", "\U0001f600", 38}, // bytes, not signs
		{"x", strings.Repeat("v", 4063), api.TableSize},
		{"x", strings.Repeat("v", 4064), api.TableSize + 1},
		{strings.Repeat("n", 4096), strings.Repeat("v", 4096), 8224},
		{long, "", 1<<20 + 32},
		{"", long, 1<<20 + 32},
		{long, long, 1<<21 + 32},
	} {
		for _, never := range []bool{false, true} {
			if n := static.Size(api.Field{Name: x.name, Value: x.value, Never: never}); n != x.want {
				t.Errorf("Size(%.20q.., %.20q.., %t) = %d, want %d", x.name, x.value, never, n, x.want)
			}
		}
	}
}

func TestP3_3SizeOfEveryField(t *testing.T) {
	for i, f := range table(t) {
		if n := static.Size(f); n != 32+len(f.Name+f.Value) {
			t.Errorf("Size of the field %d = %d", i+1, n)
		}
	}
}

func TestP3_3SizeOfAllLengths(t *testing.T) {
	for name := range 70 {
		for value := range 70 {
			f := api.Field{Name: strings.Repeat("n", name), Value: strings.Repeat("v", value)}
			if n := static.Size(f); n != 32+name+value {
				t.Errorf("Size of %d and %d bytes = %d", name, value, n)
			}
		}
	}
}

func TestP3_4WhatIsAtAPlaceIsFoundAtIt(t *testing.T) {
	for i := -2; i <= most+2; i++ {
		f, ok := static.At(i)
		if ok != (i >= 1 && i <= most) {
			t.Errorf("At(%d) = %+v, %t", i, f, ok)
		}
		if ok {
			wantFind(t, f.Name, f.Value, i, true)
		}
	}
	for i, f := range static.All() {
		wantFind(t, f.Name, f.Value, i+1, true)
	}
}

func TestP3_4NoFieldStandsTwice(t *testing.T) {
	met := map[api.Field]int{}
	for i := 1; i <= most; i++ {
		f, _ := static.At(i)
		if met[f] != 0 {
			t.Errorf("%+v stands at %d and at %d", f, met[f], i)
		}
		met[f] = i
	}
}

func TestP3_4NamesThatAreFoundHaveTheirNameAtTheirPlace(t *testing.T) {
	var names []string
	for _, f := range static.All() {
		names = append(names, f.Name, f.Value, f.Name+"x")
	}
	for _, name := range names {
		for _, value := range append([]string{"none", "PUT"}, names...) {
			i, is := static.Find(name, value)
			f, ok := static.At(i)
			if ok != (i != 0) {
				t.Errorf("Find(%q, %q) = %d, where At has %t", name, value, i, ok)
			}
			if ok && f.Name != name || is && f.Value != value || is && !ok {
				t.Errorf("Find(%q, %q) = %d, %t, where %+v is", name, value, i, is, f)
			}
		}
	}
}
