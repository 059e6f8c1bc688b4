package frame_test

import (
	"bytes"
	"math"
	"slices"
	"strconv"
	"strings"
	"testing"
	"unsafe"

	"footman/api"
	"footman/fhead"
	"footman/frame"
)

const (
	mostStream = 2147483647
	mostFrame  = 16384
)

// Types that are known, and some that are not.
var kinds = []uint8{0, 1, 2, 3, 4, 5, 6, 7, 8, 9, 10, 11, 64, 128, 254, 255}

// Streams: that of the connection, others, and numbers that no stream has.
var (
	rightStreams = []int{0, 1, 2, 3, 255, 256, 65537, 1 << 30, mostStream - 1, mostStream}
	wrongStreams = []int{-1, -2, math.MinInt32, math.MinInt, mostStream + 1, mostStream + 2, 1 << 32, 1<<32 + 1, math.MaxInt}
)

func show(f frame.Frame) string {
	data := strconv.Quote(f.Data)
	if len(f.Data) > 40 {
		data = strconv.Itoa(len(f.Data)) + " bytes"
	}
	s := "{type " + strconv.Itoa(int(f.Type)) + " flags " + strconv.Itoa(int(f.Flags)) + " stream " + strconv.Itoa(f.Stream) +
		" data " + data + " pad " + strconv.Itoa(f.Pad) + " dep " + strconv.Itoa(f.Dep) + " sole " + strconv.FormatBool(f.Sole) +
		" weight " + strconv.Itoa(int(f.Weight)) + " code " + strconv.FormatUint(uint64(f.Code), 10) +
		" last " + strconv.Itoa(f.Last) + " inc " + strconv.Itoa(f.Inc) + " pairs"
	for i, p := range f.Pairs {
		if i == 8 {
			return s + " .. " + strconv.Itoa(len(f.Pairs)) + "}"
		}
		s += " " + strconv.Itoa(int(p.ID)) + ":" + strconv.FormatUint(uint64(p.Value), 10)
	}
	return s + "}"
}

// same holds two frames against each other without Same.
func same(a, b frame.Frame) bool {
	if len(a.Pairs) != len(b.Pairs) {
		return false
	}
	for i := range a.Pairs {
		if a.Pairs[i] != b.Pairs[i] {
			return false
		}
	}
	return a.Type == b.Type && a.Flags == b.Flags && a.Stream == b.Stream && a.Data == b.Data && a.Pad == b.Pad && a.Dep == b.Dep &&
		a.Sole == b.Sole && a.Weight == b.Weight && a.Code == b.Code && a.Last == b.Last && a.Inc == b.Inc
}

// laid tells a number's bytes by division, the highest first.
func laid(n, count int) string {
	b := make([]byte, count)
	for i := count - 1; i >= 0; i-- {
		b[i] = byte(n % 256)
		n /= 256
	}
	return string(b)
}

// told is what bytes tell, by products.
func told(b string) int {
	n := 0
	for i := range len(b) {
		n = 256*n + int(b[i])
	}
	return n
}

// half is a number of four bytes, whose highest bit counts for nothing, and whether that is set.
func half(b string) (int, bool) { return told(b) % 2147483648, told(b) >= 2147483648 }

func has(flags, flag uint8) bool { return flags/flag%2 == 1 }

var (
	connProtocol = frame.Fault{Code: api.ProtocolError}
	connSize     = frame.Fault{Code: api.SizeError}
)

// modelRead is P9.1, type by type.
func modelRead(kind, flags uint8, stream int, p string) (frame.Frame, frame.Fault) {
	f := frame.Frame{Type: kind, Flags: flags, Stream: stream}
	wrong := func(x frame.Fault) (frame.Frame, frame.Fault) { return frame.Frame{}, x }
	switch kind {
	case 0, 1, 2, 3, 9:
		if stream == 0 {
			return wrong(connProtocol)
		}
	case 4, 6, 7:
		if stream != 0 {
			return wrong(connProtocol)
		}
	case 5:
		return wrong(connProtocol)
	}
	if kind < 2 && has(flags, 8) {
		if len(p) == 0 {
			return wrong(connSize)
		}
		f.Pad = int(p[0])
		if f.Pad > len(p)-1 {
			return wrong(connProtocol)
		}
		p = p[1 : len(p)-f.Pad]
	}
	switch kind {
	case 1:
		if has(flags, 32) {
			if len(p) < 5 {
				return wrong(connSize)
			}
			f.Dep, f.Sole = half(p[:4])
			f.Weight, p = p[4], p[5:]
		}
		f.Data = p
	case 2:
		if len(p) != 5 {
			return wrong(frame.Fault{Code: api.SizeError, Stream: stream})
		}
		f.Dep, f.Sole = half(p[:4])
		f.Weight = p[4]
	case 3:
		if len(p) != 4 {
			return wrong(connSize)
		}
		f.Code = uint32(told(p))
	case 4:
		if len(p)%6 != 0 || has(flags, 1) && len(p) != 0 {
			return wrong(connSize)
		}
		for i := 0; i < len(p); i += 6 {
			f.Pairs = append(f.Pairs, api.Pair{ID: uint16(told(p[i : i+2])), Value: uint32(told(p[i+2 : i+6]))})
		}
	case 6:
		if len(p) != 8 {
			return wrong(connSize)
		}
		f.Data = p
	case 7:
		if len(p) < 8 {
			return wrong(connSize)
		}
		f.Last, _ = half(p[:4])
		f.Code, f.Data = uint32(told(p[4:8])), p[8:]
	case 8:
		if len(p) != 4 {
			return wrong(connSize)
		}
		f.Inc, _ = half(p)
		if f.Inc == 0 {
			return wrong(frame.Fault{Code: api.ProtocolError, Stream: stream})
		}
	default:
		f.Data = p
	}
	return f, frame.Fault{}
}

// modelPayload is what stands behind the head of a frame that may be, type by type.
func modelPayload(f frame.Frame) string {
	turn := func() string {
		n := f.Dep
		if f.Sole {
			n += 2147483648
		}
		return laid(n, 4) + string([]byte{f.Weight})
	}
	p := ""
	switch f.Type {
	case 0:
		p = f.Data
	case 1:
		if has(f.Flags, 32) {
			p = turn()
		}
		p += f.Data
	case 2:
		return turn()
	case 3:
		return laid(int(f.Code), 4)
	case 4:
		for _, x := range f.Pairs {
			p += laid(int(x.ID), 2) + laid(int(x.Value), 4)
		}
		return p
	case 7:
		return laid(f.Last, 4) + laid(int(f.Code), 4) + f.Data
	case 8:
		return laid(f.Inc, 4)
	default:
		return f.Data
	}
	if has(f.Flags, 8) {
		return string([]byte{byte(f.Pad)}) + p + strings.Repeat("\x00", f.Pad)
	}
	return p
}

// modelCheck is what Check must tell.
func modelCheck(f frame.Frame) api.Errno {
	for _, n := range []int{f.Stream, f.Dep, f.Last, f.Inc} {
		if n < 0 || n > mostStream {
			return api.ErrRange
		}
	}
	if f.Pad < 0 || f.Pad > 255 {
		return api.ErrRange
	}
	// What is no field of the payload is taken away: nothing may be missing then.
	g := frame.Frame{Type: f.Type, Flags: f.Flags, Stream: f.Stream}
	if f.Type < 2 && has(f.Flags, 8) {
		g.Pad = f.Pad
	}
	if f.Type == 2 || f.Type == 1 && has(f.Flags, 32) {
		g.Dep, g.Sole, g.Weight = f.Dep, f.Sole, f.Weight
	}
	if f.Type == 3 || f.Type == 7 {
		g.Code = f.Code
	}
	if f.Type == 4 && !has(f.Flags, 1) {
		g.Pairs = f.Pairs
	}
	if f.Type == 7 {
		g.Last = f.Last
	}
	if f.Type == 8 {
		g.Inc = f.Inc
	}
	if f.Type < 2 || f.Type > 4 && f.Type != 8 {
		g.Data = f.Data
	}
	if !same(f, g) || f.Type == 6 && len(f.Data) != 8 {
		return api.ErrForm
	}
	if len(modelPayload(f)) > mostFrame {
		return api.ErrLong
	}
	return api.OK
}

func wantRead(t *testing.T, h fhead.Head, p string, want frame.Frame, wantX frame.Fault) {
	t.Helper()
	f, x := frame.Read(h, p)
	if !same(f, want) || x != wantX {
		t.Errorf("Read(%+v, %.30x, of %d) = %s, %+v, want %s, %+v", h, p, len(p), show(f), x, show(want), wantX)
	}
}

// wantModel holds Read against the model; the head's length is not the payload's.
func wantModel(t *testing.T, kind, flags uint8, stream int, p string) {
	t.Helper()
	want, wantX := modelRead(kind, flags, stream, p)
	wantRead(t, fhead.Head{Len: 3*len(p) + 1, Type: kind, Flags: flags, Stream: stream}, p, want, wantX)
}

func wantFault(t *testing.T, kind, flags uint8, stream int, p string, want frame.Fault) {
	t.Helper()
	wantRead(t, fhead.Head{Len: len(p), Type: kind, Flags: flags, Stream: stream}, p, frame.Frame{}, want)
	wantModel(t, kind, flags, stream, p)
}

func wantFrame(t *testing.T, kind, flags uint8, stream int, p string, want frame.Frame) {
	t.Helper()
	want.Type, want.Flags, want.Stream = kind, flags, stream
	wantRead(t, fhead.Head{Len: len(p), Type: kind, Flags: flags, Stream: stream}, p, want, frame.Fault{})
	wantModel(t, kind, flags, stream, p)
}

// wantCheck also holds Put and Length, which hang on Check.
func wantCheck(t *testing.T, f frame.Frame, want api.Errno) {
	t.Helper()
	if e := frame.Check(f); e != want {
		t.Errorf("Check(%s) = %d, want %d", show(f), e, want)
	}
	b, e := frame.Put(f)
	n := frame.Length(f)
	if want != api.OK {
		if len(b) != 0 || e != want || n != 0 {
			t.Errorf("of %s Put tells %.30x, %d, Length %d, want nothing, %d, and 0", show(f), b, e, n, want)
		}
		return
	}
	p := modelPayload(f)
	if string(b) != laid(len(p), 3)+string([]byte{f.Type, f.Flags})+laid(f.Stream, 4)+p || e != api.OK {
		t.Errorf("Put(%s) = %.50x, %d, want the payload %.40x", show(f), b, e, p)
	}
	if n != len(p) {
		t.Errorf("Length(%s) = %d, want %d", show(f), n, len(p))
	}
}

func wantChecked(t *testing.T, f frame.Frame) {
	t.Helper()
	wantCheck(t, f, modelCheck(f))
}

// known are frames of each type that may be, with their bytes as the document's words lay them.
func known() map[string]frame.Frame {
	return map[string]frame.Frame{
		"\x00\x00\x00\x00\x00\x00\x00\x00\x01":                                                 {Type: api.Data, Stream: 1},
		"\x00\x00\x03\x00\x01\x00\x00\x00\x01abc":                                              {Type: api.Data, Flags: 1, Stream: 1, Data: "abc"},
		"\x00\x00\x05\x00\x09\x00\x00\x00\x01\x02ab\x00\x00":                                   {Type: api.Data, Flags: 9, Stream: 1, Data: "ab", Pad: 2},
		"\x00\x00\x01\x00\x08\x00\x00\x00\x03\x00":                                             {Type: api.Data, Flags: 8, Stream: 3},
		"\x00\x00\x03\x00\x08\x00\x00\x00\x03\x02\x00\x00":                                     {Type: api.Data, Flags: 8, Stream: 3, Pad: 2},
		"\x00\x00\x02\x00\x20\x00\x00\x00\x03hi":                                               {Type: api.Data, Flags: 32, Stream: 3, Data: "hi"},
		"\x00\x00\x02\x01\x05\x00\x00\x00\x01\x82\x84":                                         {Type: api.Headers, Flags: 5, Stream: 1, Data: "\x82\x84"},
		"\x00\x00\x05\x01\x20\x00\x00\x00\x01\x00\x00\x00\x00\x00":                             {Type: api.Headers, Flags: 32, Stream: 1},
		"\x00\x00\x06\x01\x20\x00\x00\x00\x01\x81\x02\x03\x04\xffx":                            {Type: api.Headers, Flags: 32, Stream: 1, Dep: 0x01020304, Sole: true, Weight: 255, Data: "x"},
		"\x00\x00\x04\x01\x08\x00\x00\x00\x01\x01xy\x00":                                       {Type: api.Headers, Flags: 8, Stream: 1, Pad: 1, Data: "xy"},
		"\x00\x00\x09\x01\x28\x00\x00\x00\x07\x02\x00\x00\x00\x05\x06x\x00\x00":                {Type: api.Headers, Flags: 40, Stream: 7, Pad: 2, Dep: 5, Weight: 6, Data: "x"},
		"\x00\x00\x05\x02\x00\x00\x00\x00\x05\x80\x00\x00\x03\x10":                             {Type: api.Priority, Stream: 5, Dep: 3, Sole: true, Weight: 16},
		"\x00\x00\x05\x02\xff\x00\x00\x00\x05\x7f\xff\xff\xff\x00":                             {Type: api.Priority, Flags: 255, Stream: 5, Dep: mostStream},
		"\x00\x00\x04\x03\x00\x00\x00\x00\x05\x00\x00\x00\x08":                                 {Type: api.Reset, Stream: 5, Code: 8},
		"\x00\x00\x04\x03\x00\x00\x00\x00\x05\xff\xfe\xfd\xfc":                                 {Type: api.Reset, Stream: 5, Code: 0xfffefdfc},
		"\x00\x00\x00\x04\x00\x00\x00\x00\x00":                                                 {Type: api.Settings},
		"\x00\x00\x00\x04\x01\x00\x00\x00\x00":                                                 {Type: api.Settings, Flags: 1},
		"\x00\x00\x06\x04\x00\x00\x00\x00\x00\x00\x03\x00\x00\x00\x64":                         {Type: api.Settings, Pairs: []api.Pair{{ID: 3, Value: 100}}},
		"\x00\x00\x0c\x04\x00\x00\x00\x00\x00\x00\x04\x80\x01\x02\x03\xff\xfe\xfd\xfc\xfb\xfa": {Type: api.Settings, Pairs: []api.Pair{{ID: 4, Value: 0x80010203}, {ID: 0xfffe, Value: 0xfdfcfbfa}}},
		"\x00\x00\x04\x05\x04\x00\x00\x00\x01\x00\x00\x00\x02":                                 {Type: api.Push, Flags: 4, Stream: 1, Data: "\x00\x00\x00\x02"},
		"\x00\x00\x08\x06\x01\x00\x00\x00\x0012345678":                                         {Type: api.Ping, Flags: 1, Data: "12345678"},
		"\x00\x00\x08\x06\x00\x00\x00\x00\x00\x00\x00\x00\x00\x00\x00\x00\x00":                 {Type: api.Ping, Data: "\x00\x00\x00\x00\x00\x00\x00\x00"},
		"\x00\x00\x0a\x07\x00\x00\x00\x00\x00\x00\x00\x00\x07\x00\x00\x00\x02hi":               {Type: api.GoAway, Last: 7, Code: 2, Data: "hi"},
		"\x00\x00\x08\x07\x00\x00\x00\x00\x00\x7f\xff\xff\xff\xff\xff\xff\xff":                 {Type: api.GoAway, Last: mostStream, Code: math.MaxUint32},
		"\x00\x00\x04\x08\x00\x00\x00\x00\x03\x00\x00\x00\x05":                                 {Type: api.WindowUpdate, Stream: 3, Inc: 5},
		"\x00\x00\x04\x08\x00\x00\x00\x00\x00\x7f\xff\xff\xff":                                 {Type: api.WindowUpdate, Inc: mostStream},
		"\x00\x00\x02\x09\x04\x7f\xff\xff\xffhi":                                               {Type: api.Continuation, Flags: 4, Stream: mostStream, Data: "hi"},
		"\x00\x00\x00\x09\x00\x00\x00\x00\x02":                                                 {Type: api.Continuation, Stream: 2},
		"\x00\x00\x02\x0a\x08\x00\x00\x00\x00\xffx":                                            {Type: 10, Flags: 8, Data: "\xffx"},
		"\x00\x00\x02\x0b\xff\x00\x00\x00\x09zz":                                               {Type: 11, Flags: 255, Stream: 9, Data: "zz"},
		"\x00\x00\x00\xff\x20\x00\x00\x00\x00":                                                 {Type: 255, Flags: 32},
	}
}

func TestP9_1ReadsEachType(t *testing.T) {
	for b, f := range known() {
		h, _ := fhead.Get([]byte(b))
		if f.Type == api.Push {
			wantRead(t, h, b[9:], frame.Frame{}, connProtocol)
			continue
		}
		wantRead(t, h, b[9:], f, frame.Fault{})
	}
}

func TestP9_1TheHeadsLengthIsNotAsked(t *testing.T) {
	for b, f := range known() {
		h, _ := fhead.Get([]byte(b))
		if f.Type == api.Push {
			continue
		}
		for _, n := range []int{0, 1, h.Len - 1, h.Len + 1, 5, 8, mostFrame, mostFrame + 1, 1<<24 - 1, 1 << 24, -1, math.MinInt, math.MaxInt} {
			h.Len = n
			wantRead(t, h, b[9:], f, frame.Fault{})
		}
	}
	for _, n := range []int{0, 3, 4, 5, 6, 8, 12} {
		for kind, p := range map[uint8]string{api.Reset: "123", api.Settings: "12345", api.Ping: "1234567", api.GoAway: "1234567", api.WindowUpdate: "12345"} {
			h := fhead.Head{Len: n, Type: kind}
			if kind == api.Reset {
				h.Stream = 1
			}
			wantRead(t, h, p, frame.Frame{}, connSize)
		}
		wantRead(t, fhead.Head{Len: n, Type: api.Priority, Stream: 1}, "1234", frame.Frame{}, frame.Fault{Code: api.SizeError, Stream: 1})
	}
}

// rightPayload is one that a type may have, whatever its flags but Padded, Prioritied and Ack are.
func rightPayload(kind uint8) string {
	switch kind {
	case api.Priority:
		return "\x00\x00\x00\x07\x08"
	case api.Reset, api.WindowUpdate:
		return "\x00\x00\x00\x09"
	case api.Settings:
		return "\x00\x03\x00\x00\x00\x64"
	}
	return "\x01\x02\x03\x04\x05\x06\x07\x08"
}

func TestP9_1WhichStream(t *testing.T) {
	onStream := []uint8{api.Data, api.Headers, api.Priority, api.Reset, api.Continuation}
	onNone := []uint8{api.Settings, api.Ping, api.GoAway}
	for _, kind := range kinds {
		p := rightPayload(kind)
		for _, stream := range slices.Concat(rightStreams, wrongStreams) {
			h := fhead.Head{Len: len(p), Type: kind, Stream: stream}
			f, x := frame.Read(h, p)
			want := frame.Fault{}
			if kind == api.Push || slices.Contains(onStream, kind) && stream == 0 || slices.Contains(onNone, kind) && stream != 0 {
				want = connProtocol
			}
			if x != want {
				t.Errorf("Read of type %d on stream %d: %+v, want %+v", kind, stream, x, want)
			}
			if x == (frame.Fault{}) && (f.Type != kind || f.Stream != stream) || x != (frame.Fault{}) && !same(f, frame.Frame{}) {
				t.Errorf("Read of type %d on stream %d: %s, %+v", kind, stream, show(f), x)
			}
			for _, flags := range []uint8{0, 1, 4, 8, 32, 40, 255} {
				wantModel(t, kind, flags, stream, p)
			}
		}
	}
}

// payloads of n bytes: what stands at their beginnings is what Pad and the highest bits hang on.
func payloads(n int) []string {
	up := make([]byte, n)
	for i := range up {
		up[i] = byte(17*i + 129)
	}
	l := []string{strings.Repeat("\x00", n), strings.Repeat("\xff", n), strings.Repeat("\x80", n), string(up)}
	if n > 0 {
		for _, first := range []int{0, 1, 2, n - 7, n - 6, n - 5, n - 2, n - 1, n, 0x7f, 0x80} {
			up[0] = byte(max(first, 0))
			l = append(l, string(up))
		}
		l = append(l, "\x80"+strings.Repeat("\x00", n-1), strings.Repeat("\x00", n-1)+"\x01")
	}
	return l
}

func TestP9_1EachLengthWithAllFlags(t *testing.T) {
	for n := range 34 {
		l := payloads(n)
		for _, kind := range kinds {
			for flags := range 256 {
				for _, stream := range []int{0, 1} {
					for _, p := range l {
						wantModel(t, kind, uint8(flags), stream, p)
					}
				}
			}
			if t.Failed() {
				t.FailNow()
			}
		}
	}
}

func TestP9_1LengthsOneByOne(t *testing.T) {
	for n := range 40 {
		p := strings.Repeat("a", n)
		for kind, right := range map[uint8]bool{
			api.Data: true, api.Headers: true, api.Priority: n == 5, api.Reset: n == 4, api.Settings: n%6 == 0,
			api.Ping: n == 8, api.GoAway: n >= 8, api.WindowUpdate: n == 4, api.Continuation: true, 10: true, 255: true,
		} {
			stream := 3
			if kind == api.Settings || kind == api.Ping || kind == api.GoAway {
				stream = 0
			}
			want := frame.Fault{}
			if !right {
				want = connSize
			}
			if !right && kind == api.Priority {
				want.Stream = 3
			}
			if _, x := frame.Read(fhead.Head{Len: n, Type: kind, Stream: stream}, p); x != want {
				t.Errorf("Read of type %d, %d bytes: %+v, want %+v", kind, n, x, want)
			}
		}
		want := connSize
		if n == 0 {
			want = frame.Fault{}
		}
		if _, x := frame.Read(fhead.Head{Len: n, Type: api.Settings, Flags: api.Ack}, p); x != want {
			t.Errorf("Read of SETTINGS with Ack, %d bytes: %+v, want %+v", n, x, want)
		}
	}
}

func TestP9_1Padding(t *testing.T) {
	for _, kind := range []uint8{api.Data, api.Headers} {
		for _, flags := range []uint8{8, 9, 12, 13, 8 + 64, 255 - 32} {
			wantFault(t, kind, flags, 1, "", connSize)
			wantFrame(t, kind, flags, 1, "\x00", frame.Frame{})
			wantFault(t, kind, flags, 1, "\x01", connProtocol)
			wantFault(t, kind, flags, 1, "\xff", connProtocol)
			wantFrame(t, kind, flags, 1, "\x00abc", frame.Frame{Data: "abc"})
			wantFrame(t, kind, flags, 1, "\x01abc", frame.Frame{Pad: 1, Data: "ab"})
			wantFrame(t, kind, flags, 1, "\x03abc", frame.Frame{Pad: 3})
			wantFault(t, kind, flags, 1, "\x04abc", connProtocol)
			wantFrame(t, kind, flags, 1, "\x02ab\x00\x00", frame.Frame{Pad: 2, Data: "ab"})
			wantFrame(t, kind, flags, 1, "\x02ab\xff\x01", frame.Frame{Pad: 2, Data: "ab"})
			wantFrame(t, kind, flags, 1, "\x00\x00\x00", frame.Frame{Data: "\x00\x00"})
			for n := range 300 {
				p := "\xff" + strings.Repeat("x", n)
				if n < 255 {
					wantFault(t, kind, flags, 1, p, connProtocol)
				} else {
					wantFrame(t, kind, flags, 1, p, frame.Frame{Pad: 255, Data: strings.Repeat("x", n-255)})
				}
			}
		}
		// Without the flag the first byte is as the others, and none need be there.
		for _, flags := range []uint8{0, 1, 4, 5, 64, 128, 255 - 8 - 32} {
			wantFrame(t, kind, flags, 1, "", frame.Frame{})
			wantFrame(t, kind, flags, 1, "\xff", frame.Frame{Data: "\xff"})
			wantFrame(t, kind, flags, 1, "\x02ab\x00\x00", frame.Frame{Data: "\x02ab\x00\x00"})
		}
	}
	// Other types know no padding.
	for _, kind := range []uint8{api.Continuation, 10, 11, 255} {
		wantFrame(t, kind, 8, 1, "", frame.Frame{})
		wantFrame(t, kind, 8, 1, "\x02ab\x00\x00", frame.Frame{Data: "\x02ab\x00\x00"})
		wantFrame(t, kind, 8+32, 1, "\xff\x00", frame.Frame{Data: "\xff\x00"})
	}
	wantFrame(t, api.Priority, 8, 1, "\xff\x00\x00\x01\x02", frame.Frame{Sole: true, Dep: 0x7f000001, Weight: 2})
	wantFrame(t, api.Reset, 8, 1, "\xff\x00\x00\x01", frame.Frame{Code: 0xff000001})
	wantFrame(t, api.Settings, 8, 0, "\xff\x00\x00\x00\x00\x01", frame.Frame{Pairs: []api.Pair{{ID: 0xff00, Value: 1}}})
	wantFrame(t, api.Ping, 8, 0, "\xff2345678", frame.Frame{Data: "\xff2345678"})
	wantFrame(t, api.GoAway, 8, 0, "\x7f\x00\x00\x01\x00\x00\x00\x02\x01", frame.Frame{Last: 0x7f000001, Code: 2, Data: "\x01"})
	wantFrame(t, api.WindowUpdate, 8, 0, "\x7f\x00\x00\x01", frame.Frame{Inc: 0x7f000001})
}

func TestP9_1HeadersPrioritied(t *testing.T) {
	whole := frame.Frame{Dep: 0x01020304, Weight: 5}
	for n := range 5 {
		wantFault(t, api.Headers, 32, 1, "\x01\x02\x03\x04\x05"[:n], connSize)
		wantFault(t, api.Headers, 40, 1, "\x00"+"\x01\x02\x03\x04\x05"[:n], connSize)
		// Ahead of the padding, which might do for what lacks.
		wantFault(t, api.Headers, 40, 1, "\x05"+"\x01\x02\x03\x04\x05"[:n]+"\x00\x00\x00\x00\x00", connSize)
		wantFault(t, api.Headers, 40, 1, string([]byte{byte(5 - n)})+"\x01\x02\x03\x04\x05", connSize)
	}
	wantFrame(t, api.Headers, 32, 1, "\x01\x02\x03\x04\x05", whole)
	wantFrame(t, api.Headers, 40, 1, "\x00\x01\x02\x03\x04\x05", whole)
	whole.Pad = 2
	wantFrame(t, api.Headers, 40, 1, "\x02\x01\x02\x03\x04\x05\x00\x00", whole)
	wantFrame(t, api.Headers, 40, 1, "\x02\x01\x02\x03\x04\x05zz", whole)
	whole.Data = "ab"
	wantFrame(t, api.Headers, 40, 1, "\x02\x01\x02\x03\x04\x05abzz", whole)
	whole.Pad = 0
	wantFrame(t, api.Headers, 32, 1, "\x01\x02\x03\x04\x05ab", whole)
	wantFrame(t, api.Headers, 37, 1, "\x01\x02\x03\x04\x05ab", whole)
	// Without the flag they are Data; of DATA they are so with it, too.
	wantFrame(t, api.Headers, 0, 1, "\x01\x02\x03\x04\x05ab", frame.Frame{Data: "\x01\x02\x03\x04\x05ab"})
	wantFrame(t, api.Headers, 8, 1, "\x01\x02\x03\x04\x05ab", frame.Frame{Pad: 1, Data: "\x02\x03\x04\x05a"})
	wantFrame(t, api.Data, 32, 1, "\x01\x02", frame.Frame{Data: "\x01\x02"})
	wantFrame(t, api.Data, 40, 1, "\x01\x02\x03", frame.Frame{Pad: 1, Data: "\x02"})
}

func TestP9_1TheHighestBits(t *testing.T) {
	for _, n := range []int{0, 1, 2, 255, 256, 65536, 1 << 24, 0x01020304, 1 << 30, mostStream - 1, mostStream} {
		low, high := laid(n, 4), laid(n+mostStream+1, 4)
		wantFrame(t, api.Priority, 0, 1, low+"\x10", frame.Frame{Dep: n, Weight: 16})
		wantFrame(t, api.Priority, 0, 1, high+"\x10", frame.Frame{Dep: n, Sole: true, Weight: 16})
		wantFrame(t, api.Headers, 32, 1, low+"\xff", frame.Frame{Dep: n, Weight: 255})
		wantFrame(t, api.Headers, 32, 1, high+"\xff", frame.Frame{Dep: n, Sole: true, Weight: 255})
		wantFrame(t, api.GoAway, 0, 0, low+high, frame.Frame{Last: n, Code: uint32(n + mostStream + 1)})
		wantFrame(t, api.GoAway, 0, 0, high+low, frame.Frame{Last: n, Code: uint32(n)})
		wantFrame(t, api.Reset, 0, 1, low, frame.Frame{Code: uint32(n)})
		wantFrame(t, api.Reset, 0, 1, high, frame.Frame{Code: uint32(n + mostStream + 1)})
		wantFrame(t, api.Settings, 0, 0, "\x80\x00"+high, frame.Frame{Pairs: []api.Pair{{ID: 0x8000, Value: uint32(n + mostStream + 1)}}})
		if n > 0 {
			wantFrame(t, api.WindowUpdate, 0, 1, low, frame.Frame{Inc: n})
			wantFrame(t, api.WindowUpdate, 0, 0, high, frame.Frame{Inc: n})
		}
	}
}

func TestP9_1Settings(t *testing.T) {
	for _, flags := range []uint8{0, 2, 4, 8, 32, 254} {
		wantFrame(t, api.Settings, flags, 0, "", frame.Frame{})
		wantFrame(t, api.Settings, flags, 0, "\x00\x01\x00\x00\x10\x00", frame.Frame{Pairs: []api.Pair{{ID: 1, Value: 4096}}})
		wantFault(t, api.Settings, flags, 0, "\x00\x01\x00\x00\x10", connSize)
		wantFault(t, api.Settings, flags, 0, "\x00\x01\x00\x00\x10\x00\x00", connSize)
	}
	for _, flags := range []uint8{1, 3, 5, 9, 33, 255} {
		wantFrame(t, api.Settings, flags, 0, "", frame.Frame{})
		wantFault(t, api.Settings, flags, 0, "\x00\x01\x00\x00\x10\x00", connSize)
		wantFault(t, api.Settings, flags, 0, "\x00", connSize)
	}
	// In their order, those that are told twice too, and of any numbers.
	for _, count := range []int{2, 3, 100, 2730} {
		p, want := "", frame.Frame{}
		for i := range count {
			x := api.Pair{ID: uint16(i / 2 * 31), Value: uint32(i * 12345677)}
			p += laid(int(x.ID), 2) + laid(int(x.Value), 4)
			want.Pairs = append(want.Pairs, x)
		}
		wantFrame(t, api.Settings, 0, 0, p, want)
		wantFault(t, api.Settings, 0, 0, p[1:], connSize)
		wantFault(t, api.Settings, 1, 0, p, connSize)
	}
}

func TestP9_1GoAway(t *testing.T) {
	wantFault(t, api.GoAway, 0, 0, "", connSize)
	wantFault(t, api.GoAway, 0, 0, "\x00\x00\x00\x01\x00\x00\x00", connSize)
	wantFrame(t, api.GoAway, 0, 0, "\x00\x00\x00\x01\x00\x00\x00\x02", frame.Frame{Last: 1, Code: 2})
	wantFrame(t, api.GoAway, 0, 0, "\x00\x00\x00\x00\x00\x00\x00\x00", frame.Frame{})
	wantFrame(t, api.GoAway, 0, 0, "\x00\x00\x00\x01\x00\x00\x00\x02x", frame.Frame{Last: 1, Code: 2, Data: "x"})
	wantFrame(t, api.GoAway, 255, 0, "\x00\x00\x00\x01\x00\x00\x00\x02"+strings.Repeat("why", 500), frame.Frame{Last: 1, Code: 2, Data: strings.Repeat("why", 500)})
}

func TestP9_1WindowUpdateOfNothing(t *testing.T) {
	for _, p := range []string{"\x00\x00\x00\x00", "\x80\x00\x00\x00"} {
		for _, stream := range []int{0, 1, 2, 7, mostStream} {
			for _, flags := range []uint8{0, 1, 8, 255} {
				wantFault(t, api.WindowUpdate, flags, stream, p, frame.Fault{Code: api.ProtocolError, Stream: stream})
			}
		}
	}
	wantFrame(t, api.WindowUpdate, 0, 7, "\x80\x00\x00\x01", frame.Frame{Inc: 1})
	wantFrame(t, api.WindowUpdate, 0, 0, "\x00\x00\x00\x01", frame.Frame{Inc: 1})
	wantFrame(t, api.WindowUpdate, 0, 0, "\x01\x00\x00\x00", frame.Frame{Inc: 1 << 24})
}

func TestP9_1WhichFaultIsTold(t *testing.T) {
	for _, x := range []struct {
		kind, flags uint8
		stream      int
		p           string
		want        frame.Fault
	}{
		// The stream ahead of the length and of the padding.
		{api.Data, 8, 0, "", connProtocol},
		{api.Data, 8, 0, "\xff", connProtocol},
		{api.Headers, 8, 0, "", connProtocol},
		{api.Headers, 32, 0, "1234", connProtocol},
		{api.Priority, 0, 0, "1234", connProtocol},
		{api.Reset, 0, 0, "123", connProtocol},
		{api.Settings, 0, 5, "12345", connProtocol},
		{api.Settings, 1, 5, "123456", connProtocol},
		{api.Push, 0, 5, "", connProtocol},
		{api.Push, 8, 0, "", connProtocol},
		{api.Ping, 0, 5, "1234567", connProtocol},
		{api.GoAway, 0, 5, "1234567", connProtocol},
		{api.Settings, 0, -1, "12345", connProtocol},
		{api.Ping, 0, -1, "1234567", connProtocol},
		{api.GoAway, 0, mostStream + 1, "1234567", connProtocol},
		// Padding that is not there ahead of the five bytes that are not there.
		{api.Headers, 40, 1, "", connSize},
		{api.Headers, 40, 1, "\x05", connProtocol},
		{api.Headers, 40, 1, "\x051234", connProtocol},
		{api.Headers, 40, 1, "\x041234", connSize},
		{api.Headers, 40, 1, "\x0512345", connSize},
		{api.Headers, 40, 1, "\x0612345", connProtocol},
		{api.Headers, 40, 1, "\x001234", connSize},
		// A length ahead of what stands there.
		{api.WindowUpdate, 0, 0, "\x00\x00\x00", connSize},
		{api.WindowUpdate, 0, 7, "\x00\x00\x00", connSize},
		{api.WindowUpdate, 0, 7, "\x00\x00\x00\x00\x00", connSize},
		{api.WindowUpdate, 0, 7, "", connSize},
		{api.Settings, 1, 0, "12345", connSize},
		// Of what stream: PRIORITY's length alone is its stream's.
		{api.Priority, 0, 3, "1234", frame.Fault{Code: api.SizeError, Stream: 3}},
		{api.Priority, 0, mostStream, "123456", frame.Fault{Code: api.SizeError, Stream: mostStream}},
		{api.Priority, 255, 9, "", frame.Fault{Code: api.SizeError, Stream: 9}},
		{api.Reset, 0, 3, "12345", connSize},
		{api.Data, 8, 3, "", connSize},
		{api.Data, 8, 3, "\x02x", connProtocol},
	} {
		wantFault(t, x.kind, x.flags, x.stream, x.p, x.want)
	}
}

// A long payload is no fault of Read.
func TestP9_1LongPayloads(t *testing.T) {
	for _, n := range []int{mostFrame - 1, mostFrame, mostFrame + 1, 70000} {
		p := strings.Repeat("0", n)
		for _, kind := range []uint8{api.Data, api.Headers, api.Continuation, 10} {
			wantFrame(t, kind, 0, 1, p, frame.Frame{Data: p})
		}
		wantFrame(t, api.Data, 8, 1, p, frame.Frame{Pad: '0', Data: p[1+'0':]})
		wantFrame(t, api.GoAway, 0, 0, p, frame.Frame{Last: 0x30303030, Code: 0x30303030, Data: p[8:]})
	}
}

func TestP9_1ReadAnswersNewMemory(t *testing.T) {
	p := string([]byte("\x00\x01\x00\x00\x10\x00\x00\x02\x00\x00\x00\x00"))
	h := fhead.Head{Len: len(p), Type: api.Settings}
	f, _ := frame.Read(h, p)
	g, _ := frame.Read(h, p)
	for i := range g.Pairs[:cap(g.Pairs)] {
		g.Pairs[:cap(g.Pairs)][i] = api.Pair{ID: 9, Value: 9}
	}
	if want := []api.Pair{{ID: 1, Value: 4096}, {ID: 2, Value: 0}}; !slices.Equal(f.Pairs, want) || p != "\x00\x01\x00\x00\x10\x00\x00\x02\x00\x00\x00\x00" {
		t.Errorf("two answers share their memory: %s", show(f))
	}
	// A piece of the payload would keep it all for as long as the frame is there.
	for _, kind := range []uint8{api.Data, api.Headers, api.Ping, api.GoAway, api.Continuation, 10} {
		p, h := string([]byte("12345678")), fhead.Head{Type: kind}
		if kind == api.GoAway {
			p += "why"
		}
		if kind != api.Ping && kind != api.GoAway {
			h.Stream = 1
		}
		f, x := frame.Read(h, p)
		from, data := uintptr(unsafe.Pointer(unsafe.StringData(p))), uintptr(unsafe.Pointer(unsafe.StringData(f.Data)))
		if x != (frame.Fault{}) || f.Data == "" || data >= from && data < from+uintptr(len(p)) {
			t.Errorf("Data of type %d shares the payload's memory, or is not there: %s, %+v", kind, show(f), x)
		}
	}
}

func TestP9_2PutTellsBytes(t *testing.T) {
	for b, f := range known() {
		got, e := frame.Put(f)
		if string(got) != b || e != api.OK {
			t.Errorf("Put(%s) = %x, %d, want %x", show(f), got, e, b)
		}
		if n := frame.Length(f); n != len(b)-9 {
			t.Errorf("Length(%s) = %d, want %d", show(f), n, len(b)-9)
		}
		wantCheck(t, f, api.OK)
	}
}

// base is a frame of that type and those flags which may be.
func base(kind, flags uint8) frame.Frame {
	f := frame.Frame{Type: kind, Flags: flags, Stream: 1}
	if kind == api.Ping {
		f.Data = "12345678"
	}
	return f
}

// oneField are changes of one field each.
func oneField() map[string]func(f *frame.Frame) {
	return map[string]func(f *frame.Frame){
		"Data":   func(f *frame.Frame) { f.Data += "x" },
		"Pad":    func(f *frame.Frame) { f.Pad = 1 },
		"Dep":    func(f *frame.Frame) { f.Dep = 1 },
		"Sole":   func(f *frame.Frame) { f.Sole = true },
		"Weight": func(f *frame.Frame) { f.Weight = 1 },
		"Code":   func(f *frame.Frame) { f.Code = 1 },
		"Last":   func(f *frame.Frame) { f.Last = 1 },
		"Inc":    func(f *frame.Frame) { f.Inc = 1 },
		"Pairs":  func(f *frame.Frame) { f.Pairs = []api.Pair{{}} },
	}
}

func TestP9_2EachFieldOnItsOwn(t *testing.T) {
	for _, kind := range kinds {
		for flags := range 256 {
			may := map[string]bool{}
			switch kind {
			case api.Data, api.Headers:
				may["Data"], may["Pad"] = true, has(uint8(flags), 8)
				turn := kind == api.Headers && has(uint8(flags), 32)
				may["Dep"], may["Sole"], may["Weight"] = turn, turn, turn
			case api.Priority:
				may["Dep"], may["Sole"], may["Weight"] = true, true, true
			case api.Reset:
				may["Code"] = true
			case api.Settings:
				may["Pairs"] = !has(uint8(flags), 1)
			case api.Ping: // no Data but that of eight bytes
			case api.GoAway:
				may["Last"], may["Code"], may["Data"] = true, true, true
			case api.WindowUpdate:
				may["Inc"] = true
			default:
				may["Data"] = true
			}
			wantCheck(t, base(kind, uint8(flags)), api.OK)
			for name, change := range oneField() {
				f, want := base(kind, uint8(flags)), api.OK
				change(&f)
				if !may[name] {
					want = api.ErrForm
				}
				wantCheck(t, f, want)
			}
		}
	}
}

func TestP9_2TwoFields(t *testing.T) {
	for _, kind := range kinds {
		for _, flags := range []uint8{0, 1, 4, 8, 32, 40, 41, 255} {
			for _, one := range oneField() {
				for _, other := range oneField() {
					f := base(kind, flags)
					one(&f)
					other(&f)
					wantChecked(t, f)
				}
			}
		}
	}
}

func TestP9_2NumbersAtTheirEdges(t *testing.T) {
	edges := map[int]bool{-1: false, 0: true, 1: true, mostStream - 1: true, mostStream: true, mostStream + 1: false, math.MinInt: false, math.MaxInt: false, 1 << 32: false}
	for n, right := range edges {
		want := api.OK
		if !right {
			want = api.ErrRange
		}
		for _, kind := range kinds {
			f := base(kind, 0)
			f.Stream = n
			wantCheck(t, f, want)
		}
		wantCheck(t, frame.Frame{Type: api.Priority, Stream: 1, Dep: n}, want)
		wantCheck(t, frame.Frame{Type: api.Priority, Stream: 1, Dep: n, Sole: true}, want)
		wantCheck(t, frame.Frame{Type: api.Headers, Flags: 32, Stream: 1, Dep: n}, want)
		wantCheck(t, frame.Frame{Type: api.GoAway, Last: n}, want)
		wantCheck(t, frame.Frame{Type: api.WindowUpdate, Inc: n}, want)
	}
	for n, right := range map[int]bool{-1: false, 0: true, 1: true, 254: true, 255: true, 256: false, 257: false, math.MinInt: false, math.MaxInt: false} {
		want := api.OK
		if !right {
			want = api.ErrRange
		}
		for _, flags := range []uint8{8, 9, 40, 255} {
			wantCheck(t, frame.Frame{Type: api.Data, Flags: flags, Stream: 1, Pad: n, Data: "ab"}, want)
			wantCheck(t, frame.Frame{Type: api.Headers, Flags: flags, Stream: 1, Pad: n, Data: "ab"}, want)
		}
	}
}

// A number that is out of range is told ahead of that its payload has it not; one in range is told so.
func TestP9_2NumbersWhereTheyAreNot(t *testing.T) {
	for _, kind := range kinds {
		for _, flags := range []uint8{0, 1, 8, 32, 40} {
			for _, n := range []int{-1, 0, 1, mostStream, mostStream + 1} {
				for _, change := range []func(f *frame.Frame){
					func(f *frame.Frame) { f.Dep = n },
					func(f *frame.Frame) { f.Last = n },
					func(f *frame.Frame) { f.Inc = n },
				} {
					f := base(kind, flags)
					change(&f)
					wantChecked(t, f)
					if n < 0 || n > mostStream {
						wantCheck(t, f, api.ErrRange)
					}
				}
			}
			for _, n := range []int{-1, 0, 1, 255, 256} {
				f := base(kind, flags)
				f.Pad = n
				wantChecked(t, f)
				if n < 0 || n > 255 {
					wantCheck(t, f, api.ErrRange)
				}
			}
		}
	}
}

func TestP9_2SeveralNumbersAtOnce(t *testing.T) {
	edges := []int{-1, 0, mostStream, mostStream + 1}
	for _, kind := range kinds {
		for _, stream := range edges {
			for _, dep := range edges {
				for _, last := range edges {
					for _, inc := range edges {
						for _, pad := range []int{-1, 0, 255, 256} {
							f := base(kind, 40)
							f.Stream, f.Dep, f.Last, f.Inc, f.Pad = stream, dep, last, inc, pad
							wantChecked(t, f)
						}
					}
				}
			}
		}
	}
}

func TestP9_2Ping(t *testing.T) {
	for n := range 20 {
		for _, flags := range []uint8{0, 1, 8, 32, 255} {
			want := api.ErrForm
			if n == 8 {
				want = api.OK
			}
			wantCheck(t, frame.Frame{Type: api.Ping, Flags: flags, Data: strings.Repeat("p", n)}, want)
		}
	}
	wantCheck(t, frame.Frame{Type: api.Ping, Stream: 5, Data: "12345678"}, api.OK)
}

func TestP9_2Settings(t *testing.T) {
	one := []api.Pair{{ID: 3, Value: 100}}
	for _, flags := range []uint8{0, 2, 8, 254} {
		wantCheck(t, frame.Frame{Type: api.Settings, Flags: flags}, api.OK)
		wantCheck(t, frame.Frame{Type: api.Settings, Flags: flags, Pairs: []api.Pair{}}, api.OK)
		wantCheck(t, frame.Frame{Type: api.Settings, Flags: flags, Pairs: one}, api.OK)
	}
	for _, flags := range []uint8{1, 3, 9, 255} {
		wantCheck(t, frame.Frame{Type: api.Settings, Flags: flags}, api.OK)
		wantCheck(t, frame.Frame{Type: api.Settings, Flags: flags, Pairs: []api.Pair{}}, api.OK)
		wantCheck(t, frame.Frame{Type: api.Settings, Flags: flags, Pairs: one}, api.ErrForm)
		wantCheck(t, frame.Frame{Type: api.Settings, Flags: flags, Pairs: []api.Pair{{}}}, api.ErrForm)
	}
	// An Ack is no other type's.
	wantCheck(t, frame.Frame{Type: 10, Flags: 1, Pairs: one}, api.ErrForm)
}

func TestP9_2LongPayloads(t *testing.T) {
	data := func(n int) string { return strings.Repeat("d", n) }
	for n, want := range map[int]api.Errno{mostFrame - 1: api.OK, mostFrame: api.OK, mostFrame + 1: api.ErrLong, mostFrame + 2: api.ErrLong, 70000: api.ErrLong} {
		for _, kind := range []uint8{api.Data, api.Headers, api.Push, api.Continuation, 10, 11, 255} {
			wantCheck(t, frame.Frame{Type: kind, Stream: 1, Data: data(n)}, want)
		}
		for _, pad := range []int{0, 1, 254, 255} {
			wantCheck(t, frame.Frame{Type: api.Data, Flags: 8, Stream: 1, Pad: pad, Data: data(n - 1 - pad)}, want)
			wantCheck(t, frame.Frame{Type: api.Headers, Flags: 8, Stream: 1, Pad: pad, Data: data(n - 1 - pad)}, want)
			wantCheck(t, frame.Frame{Type: api.Headers, Flags: 40, Stream: 1, Pad: pad, Dep: 1, Data: data(n - 6 - pad)}, want)
		}
		wantCheck(t, frame.Frame{Type: api.Headers, Flags: 32, Stream: 1, Data: data(n - 5)}, want)
		wantCheck(t, frame.Frame{Type: api.GoAway, Last: 1, Code: 2, Data: data(n - 8)}, want)
	}
	// 2730 pairs have 16380 bytes, and one more 16386.
	for n, want := range map[int]api.Errno{2729: api.OK, 2730: api.OK, 2731: api.ErrLong, 9000: api.ErrLong} {
		l := make([]api.Pair, n)
		for i := range l {
			l[i] = api.Pair{ID: uint16(i), Value: uint32(i * 1000003)}
		}
		wantCheck(t, frame.Frame{Type: api.Settings, Pairs: l}, want)
	}
}

func TestP9_2WhichErrorIsTold(t *testing.T) {
	long := strings.Repeat("d", mostFrame+1)
	many := make([]api.Pair, 2731)
	for _, x := range []struct {
		f    frame.Frame
		want api.Errno
	}{
		// All three.
		{frame.Frame{Type: api.Reset, Stream: -1, Data: long}, api.ErrRange},
		{frame.Frame{Type: api.Data, Stream: 1, Pad: 256, Data: long}, api.ErrRange},
		{frame.Frame{Type: api.Settings, Flags: 1, Stream: mostStream + 1, Pairs: many}, api.ErrRange},
		// A range and a form.
		{frame.Frame{Type: api.Ping, Inc: -1}, api.ErrRange},
		{frame.Frame{Type: api.Ping, Data: "1234567", Stream: -1}, api.ErrRange},
		{frame.Frame{Type: api.Data, Pad: -1}, api.ErrRange},
		{frame.Frame{Type: api.Settings, Flags: 1, Last: -1, Pairs: many[:1]}, api.ErrRange},
		// A range and a length.
		{frame.Frame{Type: api.Data, Stream: -1, Data: long}, api.ErrRange},
		{frame.Frame{Type: api.Settings, Stream: mostStream + 1, Pairs: many}, api.ErrRange},
		{frame.Frame{Type: api.Headers, Flags: 32, Dep: mostStream + 1, Data: long}, api.ErrRange},
		// A form and a length.
		{frame.Frame{Type: api.Ping, Data: long}, api.ErrForm},
		{frame.Frame{Type: api.Reset, Data: long}, api.ErrForm},
		{frame.Frame{Type: api.Data, Stream: 1, Pad: 1, Data: long}, api.ErrForm},
		{frame.Frame{Type: api.Headers, Stream: 1, Weight: 1, Data: long}, api.ErrForm},
		{frame.Frame{Type: api.Settings, Flags: 1, Pairs: many}, api.ErrForm},
		{frame.Frame{Type: api.Data, Stream: 1, Pairs: many}, api.ErrForm},
		{frame.Frame{Type: 10, Inc: 1, Data: long}, api.ErrForm},
	} {
		wantCheck(t, x.f, x.want)
		wantChecked(t, x.f)
	}
}

// What Read takes for a fault may be put all the same, as long as Check does not name it.
func TestP9_2PutsWhatReadRefuses(t *testing.T) {
	for _, f := range []frame.Frame{
		{Type: api.Data, Data: "x"}, {Type: api.Headers}, {Type: api.Priority}, {Type: api.Reset}, {Type: api.Continuation},
		{Type: api.Settings, Stream: 1}, {Type: api.Ping, Stream: 1, Data: "12345678"}, {Type: api.GoAway, Stream: 1},
		{Type: api.Push, Data: "x"}, {Type: api.Push, Stream: 1}, {Type: api.WindowUpdate}, {Type: api.WindowUpdate, Stream: 1},
	} {
		wantCheck(t, f, api.OK)
	}
}

func TestP9_2PutChangesNothingAndAnswersNewMemory(t *testing.T) {
	room := []api.Pair{{ID: 1, Value: 2}, {ID: 3, Value: 4}, {ID: 5, Value: 6}}
	kept := slices.Clone(room)
	f := frame.Frame{Type: api.Settings, Pairs: room[:2]}
	b, _ := frame.Put(f)
	first := bytes.Clone(b)
	other, _ := frame.Put(f)
	other = other[:cap(other)]
	for i := range other {
		other[i] ^= 0xff
	}
	frame.Check(f)
	frame.Length(f)
	frame.Same(f, f)
	if !slices.Equal(room, kept) || len(f.Pairs) != 2 {
		t.Errorf("what came in has changed: %v", room)
	}
	if !bytes.Equal(b, first) {
		t.Errorf("two answers share their memory: %x", b)
	}
	f.Pairs[0].ID = 9
	if !bytes.Equal(b, first) {
		t.Errorf("an answer shares its frame's memory: %x", b)
	}
	wantCheck(t, f, api.OK)
}

func TestP9_3Same(t *testing.T) {
	full := func() frame.Frame {
		return frame.Frame{
			Type: 1, Flags: 2, Stream: 3, Data: "data", Pad: 4, Dep: 5, Weight: 6, Code: 7, Last: 8, Inc: 9,
			Pairs: []api.Pair{{ID: 1, Value: 10}, {ID: 2, Value: 20}},
		}
	}
	want := func(a, b frame.Frame, want bool) {
		t.Helper()
		if frame.Same(a, b) != want || frame.Same(b, a) != want {
			t.Errorf("Same(%s, %s) = %t, %t, want %t", show(a), show(b), frame.Same(a, b), frame.Same(b, a), want)
		}
	}
	for _, from := range []func() frame.Frame{full, func() frame.Frame { return frame.Frame{} }} {
		want(from(), from(), true)
		for _, change := range []func(f *frame.Frame){
			func(f *frame.Frame) { f.Type++ },
			func(f *frame.Frame) { f.Type += 128 },
			func(f *frame.Frame) { f.Flags++ },
			func(f *frame.Frame) { f.Flags += 128 },
			func(f *frame.Frame) { f.Stream++ },
			func(f *frame.Frame) { f.Stream += 1 << 32 },
			func(f *frame.Frame) { f.Stream = -1 },
			func(f *frame.Frame) { f.Data += "\x00" },
			func(f *frame.Frame) { f.Data = "Data" },
			func(f *frame.Frame) { f.Pad++ },
			func(f *frame.Frame) { f.Pad += 256 },
			func(f *frame.Frame) { f.Dep++ },
			func(f *frame.Frame) { f.Dep += 1 << 32 },
			func(f *frame.Frame) { f.Sole = true },
			func(f *frame.Frame) { f.Weight++ },
			func(f *frame.Frame) { f.Code++ },
			func(f *frame.Frame) { f.Code += 1 << 31 },
			func(f *frame.Frame) { f.Last++ },
			func(f *frame.Frame) { f.Last += 1 << 32 },
			func(f *frame.Frame) { f.Inc++ },
			func(f *frame.Frame) { f.Inc += 1 << 32 },
			func(f *frame.Frame) { f.Pairs = append(f.Pairs, api.Pair{}) },
			func(f *frame.Frame) { f.Pairs = append(f.Pairs, api.Pair{ID: 2, Value: 20}) },
		} {
			other := from()
			change(&other)
			want(from(), other, false)
			want(other, other, true)
		}
	}
	for _, change := range []func(f *frame.Frame){
		func(f *frame.Frame) { f.Pairs[0].ID++ },
		func(f *frame.Frame) { f.Pairs[0].Value++ },
		func(f *frame.Frame) { f.Pairs[1].ID += 256 },
		func(f *frame.Frame) { f.Pairs[1].Value += 1 << 31 },
		func(f *frame.Frame) { f.Pairs[0], f.Pairs[1] = f.Pairs[1], f.Pairs[0] },
		func(f *frame.Frame) { f.Pairs = f.Pairs[:1] },
		func(f *frame.Frame) { f.Pairs = f.Pairs[1:] },
		func(f *frame.Frame) { f.Pairs = f.Pairs[:0] },
		func(f *frame.Frame) { f.Pairs = nil },
	} {
		other := full()
		change(&other)
		want(full(), other, false)
	}
	// No pairs and nil are one, whatever room there is behind.
	want(frame.Frame{Type: 4}, frame.Frame{Type: 4, Pairs: []api.Pair{}}, true)
	want(frame.Frame{Type: 4}, frame.Frame{Type: 4, Pairs: full().Pairs[:0]}, true)
	want(frame.Frame{Type: 4, Pairs: []api.Pair{{}}}, frame.Frame{Type: 4}, false)
	// Of frames that may not be, and of what the payload has not, too.
	want(frame.Frame{Type: 3, Stream: -1, Data: "x", Pad: -1}, frame.Frame{Type: 3, Stream: -1, Data: "x", Pad: -1}, true)
	want(frame.Frame{Type: 3, Inc: 1}, frame.Frame{Type: 3, Inc: 2}, false)
}

// faulty tells whether a frame that may be put is a fault, once it is read.
func faulty(f frame.Frame) bool {
	switch f.Type {
	case 0, 1, 2, 3, 9:
		return f.Stream == 0
	case 4, 6, 7:
		return f.Stream != 0
	case 8:
		return f.Inc == 0
	}
	return f.Type == 5
}

// frames are such as may be put: of all types, with flags of all kinds, and each field at its edges.
func frames() []frame.Frame {
	var l []frame.Frame
	add := func(f frame.Frame) {
		if modelCheck(f) == api.OK {
			l = append(l, f)
		}
	}
	texts := []string{"", "x", "12345678", "\x00\xff\x80\x00", strings.Repeat("long", 1000)}
	numbers := []int{0, 1, 255, 256, 0x01020304, mostStream - 1, mostStream}
	for _, kind := range kinds {
		for _, flags := range []uint8{0, 1, 4, 5, 8, 9, 32, 33, 40, 45, 64, 254, 255} {
			for _, stream := range []int{0, 1, 6, mostStream} {
				f := frame.Frame{Type: kind, Flags: flags, Stream: stream}
				for i, text := range texts {
					for j, n := range numbers {
						f.Data, f.Dep, f.Sole, f.Weight, f.Code, f.Last, f.Inc, f.Pad, f.Pairs = text, 0, false, 0, 0, 0, 0, 0, nil
						add(f)
						f.Pad = n % 256
						add(f)
						f.Dep, f.Sole, f.Weight = n, i%2 == 0, uint8(37*j)
						add(f)
						f.Pad = 0
						add(f)
						f.Data = ""
						add(f)
						f.Dep, f.Sole, f.Weight = 0, false, 0
						f.Inc = n
						add(f)
						f.Data, f.Inc, f.Last, f.Code = text, 0, numbers[len(numbers)-1-j], uint32(2*n)
						add(f)
						f.Data, f.Last = "", 0
						add(f)
						f.Code, f.Pairs = 0, make([]api.Pair, i*j)
						for k := range f.Pairs {
							f.Pairs[k] = api.Pair{ID: uint16(n + k), Value: uint32(n * (k + 1))}
						}
						add(f)
					}
				}
			}
		}
	}
	return l
}

func TestP9_4WhatIsPutIsRead(t *testing.T) {
	for _, f := range frames() {
		b, e := frame.Put(f)
		h, cut := fhead.Get(b)
		if e != api.OK || cut != api.OK || h.Len != len(b)-9 || h.Len != frame.Length(f) {
			t.Fatalf("Put(%s): %d bytes, %d, %d, the head %+v, Length %d", show(f), len(b), e, cut, h, frame.Length(f))
		}
		g, x := frame.Read(h, string(b[9:]))
		if !faulty(f) && (!frame.Same(f, g) || !same(f, g) || x != (frame.Fault{})) {
			t.Fatalf("%s is read as %s, %+v", show(f), show(g), x)
		}
		if faulty(f) && (x.Code != api.ProtocolError || !same(g, frame.Frame{})) {
			t.Fatalf("%s is read as %s, %+v, want a fault", show(f), show(g), x)
		}
	}
}

// All types are among them, with a fault and without one; else the test above would hold of nothing.
func TestP9_4FramesAreOfAllTypes(t *testing.T) {
	var right, wrong [256]int
	for _, f := range frames() {
		if faulty(f) {
			wrong[f.Type]++
		} else {
			right[f.Type]++
		}
	}
	for _, kind := range kinds {
		if kind != api.Push && right[kind] == 0 {
			t.Errorf("no right frame of type %d", kind)
		}
		if kind < 10 && wrong[kind] == 0 {
			t.Errorf("no faulty frame of type %d", kind)
		}
	}
}

// Of right heads and payloads of at most 16384 bytes, which is what comes.
func TestP9_4WhatIsReadMayBePut(t *testing.T) {
	read := 0
	hold := func(kind, flags uint8, stream int, p string) {
		t.Helper()
		h := fhead.Head{Len: len(p), Type: kind, Flags: flags, Stream: stream}
		f, x := frame.Read(h, p)
		if x != (frame.Fault{}) {
			return
		}
		read++
		b, e := frame.Put(f)
		if e != api.OK || len(b)-9 != len(p) || frame.Length(f) != len(p) {
			t.Fatalf("Put(%s), as it was read of %.30x: %d bytes, %d", show(f), p, len(b), e)
		}
		back, _ := fhead.Get(b)
		if g, y := frame.Read(back, string(b[9:])); back != h || !frame.Same(f, g) || !same(f, g) || y != (frame.Fault{}) {
			t.Fatalf("%s is read again as %+v, %s, %+v", show(f), back, show(g), y)
		}
	}
	for n := range 34 {
		for _, p := range payloads(n) {
			for _, kind := range kinds {
				for flags := range 256 {
					hold(kind, uint8(flags), 0, p)
					hold(kind, uint8(flags), mostStream, p)
				}
			}
		}
	}
	for _, n := range []int{mostFrame - 4, mostFrame - 1, mostFrame} {
		for _, p := range payloads(n) {
			for _, kind := range kinds {
				for _, flags := range []uint8{0, 1, 8, 32, 40} {
					hold(kind, flags, 0, p)
					hold(kind, flags, 1, p)
				}
			}
		}
	}
	if read < 100000 {
		t.Errorf("only %d frames were read without a fault", read)
	}
}
