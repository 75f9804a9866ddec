package tests

import (
	"encoding/binary"
	"fmt"
	"math"
	"slices"
	"strings"
	"testing"

	"loop.example/g00314/impl"
)

// carriedKinds are the kinds of what is carried between addresses of so many bytes, with the
// length of the least header and the place of the check.
var carriedKinds = []struct {
	what   string
	proto  int64
	size   int
	header int
	check  int
}{
	{"TCP of fours", 6, 4, 20, 16},
	{"TCP of sixes", 6, 16, 20, 16},
	{"UDP of fours", 17, 4, 8, 6},
	{"UDP of sixes", 17, 16, 8, 6},
	{"ICMP", 1, 4, 8, 2},
	{"ICMPv6", 58, 16, 8, 2},
}

// otherProtos are none of a Flow, nor near one, and numbers that a byte or a word would cut to one.
var otherProtos = append([]int64{0, 2, 5, 7, 16, 18, 41, 44, 47, 57, 59, 255, 256 + 1, 256 + 6, 65536 + 17,
	1<<32 + 58, -6, -17}, noBytes...)

// insideOf and outsideOf are the ends of the flows of these tests.
func insideOf(size int) string {
	return map[int]string{4: addressOf("10.0.0.1"), 16: addressOf("2001:db8::1")}[size]
}

func outsideOf(size int) string {
	return map[int]string{4: addressOf("192.0.2.33"), 16: addressOf("64:ff9b::c000:221")}[size]
}

// flowAs is a right flow of that kind, of ICMP with the first port alone.
func flowAs(proto int64, size int, src int64, dst int64) impl.Flow {
	if proto == 1 || proto == 58 {
		dst = src
	}
	return impl.Flow{Proto: proto, Src: insideOf(size), Dst: outsideOf(size), SrcPort: src, DstPort: dst}
}

func flowWith(f impl.Flow, change func(f *impl.Flow)) impl.Flow {
	change(&f)
	return f
}

// layCarried lays what f carries, of ICMP asking or answering, its check 0, with the rest behind its header.
func layCarried(f impl.Flow, answers bool, rest string) string {
	ports := impl.WordBytes(f.SrcPort) + impl.WordBytes(f.DstPort)
	first := map[int64]string{1: "\x08", 58: "\x80"}[f.Proto]
	if answers {
		first = map[int64]string{1: "\x00", 58: "\x81"}[f.Proto]
	}
	switch f.Proto {
	case 6:
		return ports + "\x01\x02\x03\x04\x05\x06\x07\x08\x50\x12\x03\xe8\x00\x00\x00\x00" + rest
	case 17:
		return ports + impl.WordBytes(int64(8+len(rest))) + "\x00\x00" + rest
	}
	return first + "\x00\x00\x00" + ports[:2] + "\x00\x09" + rest
}

// pseudoOf lays the pseudo header by numbers of the library.
func pseudoOf(src string, dst string, proto int64, length int) string {
	b := []byte(src + dst)
	switch {
	case len(src) == 16:
		b = binary.BigEndian.AppendUint32(b, uint32(length))
		b = binary.BigEndian.AppendUint32(b, uint32(proto))
	case proto == 1:
		b = nil
	default:
		b = append(b, 0, byte(proto))
		b = binary.BigEndian.AppendUint16(b, uint16(length))
	}
	return string(b)
}

// checkPlaceOf is the place of the check of what is carried.
func checkPlaceOf(proto int64) int {
	return map[int64]int{6: 16, 17: 6, 1: 2, 58: 2}[proto]
}

// checked is what f carries with the check that makes it right, 65535 in the place of 0.
func checked(f impl.Flow, data string) string {
	at := checkPlaceOf(f.Proto)
	data = withWord(data, at, 0)
	check := 65535 - expected(pseudoOf(f.Src, f.Dst, f.Proto, len(data))+data)
	if check == 0 {
		check = 65535
	}
	return withWord(data, at, check)
}

// carriedAs is what a right flow carries, its check right.
func carriedAs(f impl.Flow, answers bool, rest string) string {
	return checked(f, layCarried(f, answers, rest))
}

func protoBetween(proto int64, size int) bool {
	return proto == 6 || proto == 17 || proto == 1 && size == 4 || proto == 58 && size == 16
}

func addressesMatch(src string, dst string) bool {
	return len(src) == 4 && len(dst) == 4 || len(src) == 16 && len(dst) == 16
}

// flowIsRight asks the document's words one by one.
func flowIsRight(f impl.Flow) bool {
	switch {
	case !addressesMatch(f.Src, f.Dst), !protoBetween(f.Proto, len(f.Src)):
		return false
	case !among(f.SrcPort, 0, 65535), !among(f.DstPort, 0, 65535):
		return false
	case f.Proto == 1 || f.Proto == 58:
		return f.SrcPort == f.DstPort
	}
	return true
}

// flowTold reads by places, fault by fault in the document's order.
func flowTold(src string, dst string, proto int64, data string) impl.FlowOut {
	word := func(at int) int64 { return int64(data[at])*256 + int64(data[at+1]) }
	switch {
	case len(src) > 20000, len(dst) > 20000, len(data) > 20000:
		return impl.FlowOut{Code: impl.ErrSize}
	case !addressesMatch(src, dst):
		return impl.FlowOut{Code: impl.ErrForm}
	case !protoBetween(proto, len(src)):
		return impl.FlowOut{Code: impl.ErrKind}
	case len(data) < 8, proto == 6 && len(data) < 20:
		return impl.FlowOut{Code: impl.ErrShort}
	case proto == 6 && (data[12] < 80 || int(data[12]/16)*4 > len(data)):
		return impl.FlowOut{Code: impl.ErrShort}
	}
	f := impl.Flow{Proto: proto, Src: src, Dst: dst, SrcPort: word(0), DstPort: word(2)}
	if proto == 1 || proto == 58 {
		if firsts := map[int64][]int64{1: {2048, 0}, 58: {32768, 33024}}[proto]; !slices.Contains(firsts, word(0)) {
			return impl.FlowOut{Code: impl.ErrKind}
		}
		f.SrcPort, f.DstPort = word(4), word(4)
	}
	return impl.FlowOut{Flow: f}
}

// carrySumOf reckons by the library's pseudo header, and by another sum than the program's.
func carrySumOf(src string, dst string, proto int64, data string) int64 {
	if len(data) > 20000 || !addressesMatch(src, dst) || !among(proto, 0, 255) {
		return 0
	}
	return expected(pseudoOf(src, dst, proto, len(data)) + data)
}

func carryIsRight(src string, dst string, proto int64, data string) bool {
	if carrySumOf(src, dst, proto, data) == 65535 {
		return true
	}
	return proto == 17 && len(src) == 4 && len(dst) == 4 && len(data) >= 8 && len(data) <= 20000 && data[6:8] == "\x00\x00"
}

// sameKind tells whether data of one proto may be set for the other.
func sameKind(a int64, b int64) bool {
	kinds := map[int64]int{6: 1, 17: 2, 1: 3, 58: 3}
	return kinds[a] == kinds[b]
}

// dataFor sets as the document's words say: all that was and all that is are summed at once.
func dataFor(f impl.Flow, g impl.Flow, data string) impl.DataOut {
	if len(data) > 20000 {
		return impl.DataOut{Code: impl.ErrSize}
	}
	if !flowIsRight(f) || flowTold(f.Src, f.Dst, f.Proto, data) != (impl.FlowOut{Flow: f}) || !flowIsRight(g) || !sameKind(f.Proto, g.Proto) {
		return impl.DataOut{Code: impl.ErrForm}
	}
	ports := impl.WordBytes(g.SrcPort) + impl.WordBytes(g.DstPort)
	was, is, next := data[:4], ports, ports+data[4:]
	if f.Proto == 1 || f.Proto == 58 {
		first := data[:1]
		if f.Proto != g.Proto {
			first = map[string]string{"\x08": "\x80", "\x80": "\x08", "\x00": "\x81", "\x81": "\x00"}[first]
		}
		was, is = data[:2]+data[4:6], first+data[1:2]+ports[:2]
		next = first + data[1:4] + ports[:2] + data[6:]
	}
	at := checkPlaceOf(f.Proto)
	check := int64(data[at])*256 + int64(data[at+1])
	if f.Proto == 17 && check == 0 {
		if len(g.Src) == 16 {
			return impl.DataOut{Code: impl.ErrSum}
		}
		if len(f.Src) == 4 {
			return impl.DataOut{Data: next}
		}
	}
	was += pseudoOf(f.Src, f.Dst, f.Proto, len(data))
	is += pseudoOf(g.Src, g.Dst, g.Proto, len(data))
	check = 65535 - expected(impl.WordBytes(65535-check)+impl.WordBytes(65535-expected(was))+impl.WordBytes(expected(is)))
	if check == 0 {
		check = 65535
	}
	return impl.DataOut{Data: withWord(next, at, check)}
}

// flowText tells a flow for what is told of a fault.
func flowText(f impl.Flow) string {
	return fmt.Sprintf("proto %d from %.20q:%d to %.20q:%d", f.Proto, f.Src, f.SrcPort, f.Dst, f.DstPort)
}

func wantFlow(t *testing.T, what string, got impl.FlowOut, want impl.FlowOut) {
	t.Helper()
	if got != want {
		t.Errorf("%s: got %s with the code %d, want %s with %d", what, flowText(got.Flow), got.Code, flowText(want.Flow), want.Code)
	}
}

func wantData(t *testing.T, what string, got impl.DataOut, want impl.DataOut) {
	t.Helper()
	if got != want {
		t.Errorf("%s: got %.80q with the code %d, want %.80q with %d", what, got.Data, got.Code, want.Data, want.Code)
	}
}

func wantFlowRight(t *testing.T, what string, f impl.Flow, want bool) {
	t.Helper()
	if got := impl.FlowRight(f); got != want {
		t.Errorf("%s: right is %v of %s, want %v", what, got, flowText(f), want)
	}
}

// wantSums holds sum and rightness of what is carried against the reckoned ones.
func wantSums(t *testing.T, what string, src string, dst string, proto int64, data string) {
	t.Helper()
	wantNumber(t, what+": sum", impl.CarrySum(src, dst, proto, data), carrySumOf(src, dst, proto, data))
	wantAnswer(t, what+": right", impl.CarryRight(src, dst, proto, data), carryIsRight(src, dst, proto, data))
}

func TestProtoNumbers(t *testing.T) {
	got := []int64{impl.Icmp, impl.Tcp, impl.Udp, impl.Icmp6}
	if !slices.Equal(got, []int64{1, 6, 17, 58}) {
		t.Errorf("the protos are %v", got)
	}
}

func TestFlowRightOfProtos(t *testing.T) {
	for _, size := range []int{4, 16} {
		for _, proto := range append([]int64{1, 6, 17, 58}, otherProtos...) {
			f := impl.Flow{Proto: proto, Src: insideOf(size), Dst: outsideOf(size), SrcPort: 7, DstPort: 7}
			wantFlowRight(t, "like ports", f, protoBetween(proto, size))
			f.DstPort = 8
			wantFlowRight(t, "unlike ports", f, proto == 6 || proto == 17)
		}
	}
	wantFlowRight(t, "the zero Flow", impl.Flow{}, false)
}

// addressPairs are pairs of texts of like, of mixed and of wrong lengths.
func addressPairs() [][2]string {
	pairs := [][2]string{{insideOf(4), outsideOf(4)}, {insideOf(16), outsideOf(16)}, {insideOf(4), outsideOf(16)},
		{insideOf(16), outsideOf(4)}, {insideOf(4), insideOf(4)}, {"\x00\x00\x00\x00", "\xff\xff\xff\xff"}}
	for _, none := range noAddresses() {
		pairs = append(pairs, [2]string{none, none}, [2]string{none, outsideOf(4)}, [2]string{insideOf(4), none},
			[2]string{none, outsideOf(16)}, [2]string{insideOf(16), none})
	}
	return pairs
}

func TestAddressesOfFlows(t *testing.T) {
	for _, pair := range addressPairs() {
		for _, proto := range []int64{1, 6, 17, 58, 47} {
			f := impl.Flow{Proto: proto, Src: pair[0], Dst: pair[1], SrcPort: 5, DstPort: 5}
			what := fmt.Sprintf("proto %d between %d and %d bytes", proto, len(pair[0]), len(pair[1]))
			if got := impl.FlowRight(f); got != flowIsRight(f) {
				t.Errorf("%s: right is %v", what, got)
			}
			for _, data := range []string{"", layCarried(f, false, "rest"), layCarried(f, true, "")} {
				if got := impl.FlowOf(pair[0], pair[1], proto, data); got != flowTold(pair[0], pair[1], proto, data) {
					t.Errorf("%s: FlowOf tells the code %d", what, got.Code)
				}
			}
			data := layCarried(f, false, "rest")
			wantSums(t, what, pair[0], pair[1], proto, data)
			// Data that would be right by a wrong reckoning: a check of all but the pseudo header.
			wantSums(t, what+", a check of data alone", pair[0], pair[1], proto, withCheck(data, 6))
		}
	}
}

func TestPortsOfFlows(t *testing.T) {
	for _, kind := range carriedKinds {
		for _, src := range append(someWords, noWords...) {
			for _, dst := range append(someWords, noWords...) {
				f := flowWith(flowAs(kind.proto, kind.size, 1, 1), func(f *impl.Flow) { f.SrcPort, f.DstPort = src, dst })
				right := among(src, 0, 65535) && among(dst, 0, 65535) && (src == dst || kind.proto == 6 || kind.proto == 17)
				wantFlowRight(t, kind.what, f, right)
			}
		}
		for _, src := range someWords {
			for _, dst := range someWords {
				f := flowAs(kind.proto, kind.size, src, dst)
				for _, answers := range []bool{false, true} {
					got := impl.FlowOf(f.Src, f.Dst, f.Proto, layCarried(f, answers, "rest"))
					wantFlow(t, kind.what, got, impl.FlowOut{Flow: f})
				}
			}
		}
	}
}

func TestFlowOfByHand(t *testing.T) {
	four, six := [2]string{"abcd", "efgh"}, [2]string{"abcdefghijklmnop", "ABCDEFGHIJKLMNOP"}
	for _, c := range []struct {
		ends  [2]string
		proto int64
		data  string
		src   int64
		dst   int64
	}{
		{four, 6, "\x01\x02\x03\x04\x00\x00\x00\x00\x00\x00\x00\x00\x50\x00\x00\x00\x00\x00\x00\x00", 258, 772},
		{six, 6, "\xff\xff\x00\x00\x00\x00\x00\x00\x00\x00\x00\x00\x5f\x00\x00\x00\x00\x00\x00\x00", 65535, 0},
		{four, 17, "\x03\xe8\x00\x35\x00\x00\x00\x00", 1000, 53},
		{six, 17, "\x00\x35\xff\xfe\xff\xff\xff\xff", 53, 65534},
		{four, 1, "\x08\x00\xff\xff\x12\x34\xff\xff", 4660, 4660},
		{four, 1, "\x00\x00\xff\xff\x00\x00\xff\xff", 0, 0},
		{six, 58, "\x80\x00\xff\xff\xff\xff\x00\x00", 65535, 65535},
		{six, 58, "\x81\x00\x00\x00\x00\x07\x00\x09", 7, 7},
	} {
		want := impl.Flow{Proto: c.proto, Src: c.ends[0], Dst: c.ends[1], SrcPort: c.src, DstPort: c.dst}
		wantFlow(t, fmt.Sprintf("%q", c.data), impl.FlowOf(c.ends[0], c.ends[1], c.proto, c.data), impl.FlowOut{Flow: want})
	}
}

func TestDataCutShort(t *testing.T) {
	for _, kind := range carriedKinds {
		f := flowAs(kind.proto, kind.size, 700, 9)
		whole := layCarried(f, false, "rest behind")
		for n := range len(whole) + 1 {
			want := impl.FlowOut{Flow: f}
			if n < kind.header {
				want = impl.FlowOut{Code: impl.ErrShort}
			}
			what := fmt.Sprintf("%s: %d bytes", kind.what, n)
			wantFlow(t, what, impl.FlowOf(f.Src, f.Dst, f.Proto, whole[:n]), want)
			wantSums(t, what, f.Src, f.Dst, f.Proto, whole[:n])
			set := impl.DataOut{Code: impl.ErrForm}
			if n >= kind.header {
				set = dataFor(f, f, whole[:n])
			}
			wantData(t, what, impl.CarrySet(f, f, whole[:n]), set)
		}
	}
}

func TestLengthsOfTcpHeaders(t *testing.T) {
	for _, size := range []int{4, 16} {
		f := flowAs(6, size, 700, 9)
		for first := range 16 {
			for low := range 16 {
				for _, n := range []int{20, 21, 4*first - 1, 4 * first, 4*first + 1, 59, 60, 61} {
					if n < 20 {
						continue
					}
					data := layCarried(f, false, filler(n-20))
					data = data[:12] + string([]byte{byte(16*first + low)}) + data[13:]
					want := impl.FlowOut{Flow: f}
					if first < 5 || 4*first > n {
						want = impl.FlowOut{Code: impl.ErrShort}
					}
					what := fmt.Sprintf("a header of %d fours in %d bytes", first, n)
					wantFlow(t, what, impl.FlowOf(f.Src, f.Dst, 6, data), want)
					wantData(t, what+", set", impl.CarrySet(f, f, data), dataFor(f, f, data))
				}
			}
		}
	}
}

func TestFirstBytesOfIcmp(t *testing.T) {
	for first := range 256 {
		for _, second := range []int{0, 1, 8, 128, 255} {
			for _, size := range []int{4, 16} {
				proto, right := int64(1), first == 8 || first == 0
				if size == 16 {
					proto, right = 58, first == 128 || first == 129
				}
				f := flowAs(proto, size, 700, 0)
				data := string([]byte{byte(first), byte(second)}) + layCarried(f, false, "")[2:]
				want := impl.FlowOut{Flow: f}
				if !right || second != 0 {
					want = impl.FlowOut{Code: impl.ErrKind}
				}
				what := fmt.Sprintf("ICMP of %d bytes begins with %d and %d", size, first, second)
				wantFlow(t, what, impl.FlowOf(f.Src, f.Dst, proto, data), want)
				wantData(t, what+", set", impl.CarrySet(f, f, data), dataFor(f, f, data))
			}
		}
	}
}

// Faults of FlowOf, each beside one that the document names later.
func TestFlowFaultsMeet(t *testing.T) {
	long, most := filler(impl.MaxBytes+1), filler(impl.MaxBytes)
	four, six, far := insideOf(4), insideOf(16), outsideOf(16)
	for _, c := range []struct {
		what  string
		src   string
		dst   string
		proto int64
		data  string
		code  int64
	}{
		{"src too long, all else wrong", long, "", 47, "", impl.ErrSize},
		{"dst too long, all else wrong", "", long, 47, "", impl.ErrSize},
		{"data too long, all else wrong", "", "", 47, long, impl.ErrSize},
		{"data too long alone", four, four, 17, long, impl.ErrSize},
		{"src of MaxBytes, another proto, no data", most, four, 47, "", impl.ErrForm},
		{"dst of MaxBytes, another proto, no data", four, most, 47, "", impl.ErrForm},
		{"mixed, another proto, no data", four, far, 47, "", impl.ErrForm},
		{"mixed the other way", six, four, 17, most, impl.ErrForm},
		{"no addresses, like ones", "abc", "abc", 6, most, impl.ErrForm},
		{"another proto, no data", four, four, 47, "", impl.ErrKind},
		{"ICMPv6 between fours, no data", four, four, 58, "", impl.ErrKind},
		{"ICMP between sixes, no data", six, far, 1, "", impl.ErrKind},
		{"a proto that is no byte, no data", six, far, 256 + 17, "", impl.ErrKind},
		{"ICMP that is short and begins with 3", four, four, 1, "\x03\x01\x00\x00\x00\x00\x00", impl.ErrShort},
		{"ICMPv6 that is short and begins with 8", six, far, 58, "\x08\x01\x00\x00\x00\x00\x00", impl.ErrShort},
		{"ICMP of both bytes wrong", four, four, 1, "\x03\x01\x00\x00\x00\x00\x00\x00", impl.ErrKind},
		{"TCP of 19 bytes, its header's length 0", four, four, 6, strings.Repeat("\x00", 19), impl.ErrShort},
		{"data of MaxBytes", four, four, 17, most, impl.OK},
	} {
		got := impl.FlowOf(c.src, c.dst, c.proto, c.data)
		wantNumber(t, c.what, got.Code, c.code)
		if got.Code != impl.OK && got.Flow != (impl.Flow{}) {
			t.Errorf("%s: a flow beside a code: %s", c.what, flowText(got.Flow))
		}
	}
}

func TestCarrySumByHand(t *testing.T) {
	four, six := [2]string{insideOf(4), outsideOf(4)}, [2]string{insideOf(16), outsideOf(16)}
	for _, c := range []struct {
		what  string
		ends  [2]string
		proto int64
		data  string
		want  int64
	}{
		// Reckoned elsewhere, word by word.
		{"UDP of fours", [2]string{"\x0a\x00\x00\x01", "\x0a\x00\x00\x02"}, 17, "\x03\xe8\x00\x35\x00\x0a\x00\x00hi", 65535 - 0x7f51},
		{"TCP of fours", four, 6, "\x9c\x40\x00\x50\x01\x02\x03\x04\x00\x00\x00\x00\x50\x02\x03\xe8\x00\x00\x00\x00", 65535 - 0x3f42},
		{"UDP of sixes", six, 17, "\x14\xe9\x00\x35\x00\x0a\x00\x00hi", 65535 - 0x9277},
		{"TCP of sixes", six, 6, "\x04\x07\x00\x50\x01\x02\x03\x04\x00\x00\x00\x00\x50\x02\x03\xe8\x00\x00\x00\x00", 65535 - 0xb3c2},
		{"ICMP", four, 1, "\x08\x00\x00\x00\x12\x34\x00\x01abc", 65535 - 0x2168},
		{"ICMPv6", six, 58, "\x80\x00\x00\x00\x04\x05\x00\x01abc", 65535 - 0xc775},
		{"no data of ICMP", four, 1, "", 0},
		{"no data of no proto", [2]string{"\x00\x00\x00\x00", "\x00\x00\x00\x00"}, 0, "", 0},
		{"a proto alone", [2]string{"\x00\x00\x00\x00", "\x00\x00\x00\x00"}, 255, "", 255},
		{"one byte", [2]string{"\x00\x00\x00\x00", "\x00\x00\x00\x00"}, 0, "\x05", 0x0501},
	} {
		wantNumber(t, c.what, impl.CarrySum(c.ends[0], c.ends[1], c.proto, c.data), c.want)
	}
}

// Every proto that is a byte has a sum, with its pseudo header but of Icmp between fours; no other has.
func TestSumsOfProtos(t *testing.T) {
	for _, size := range []int{4, 16} {
		src, dst := insideOf(size), outsideOf(size)
		for proto := range int64(256) {
			for _, data := range []string{"", "d", "da", filler(7), filler(8), filler(41)} {
				wantSums(t, fmt.Sprintf("proto %d, %d bytes, of %d", proto, len(data), size), src, dst, proto, data)
			}
		}
		for _, proto := range otherProtos {
			wantSums(t, fmt.Sprintf("proto %d", proto), src, dst, proto, filler(8))
			wantSums(t, fmt.Sprintf("proto %d, zeros", proto), src, dst, proto, strings.Repeat("\x00", 8))
		}
	}
}

func TestSumsOfLengths(t *testing.T) {
	for _, kind := range carriedKinds {
		src, dst := insideOf(kind.size), outsideOf(kind.size)
		for _, text := range madeTexts() {
			wantSums(t, fmt.Sprintf("%s, %d bytes", kind.what, len(text)), src, dst, kind.proto, text)
		}
		for _, n := range []int{255, 256, 257, 1400, 19999, 20000, 20001, 20002, 65535, 65536, 70000} {
			wantSums(t, fmt.Sprintf("%s, %d bytes", kind.what, n), src, dst, kind.proto, filler(n))
		}
		f := flowAs(kind.proto, kind.size, 1024, 80)
		data := carriedAs(f, false, filler(impl.MaxBytes-kind.header))
		wantAnswer(t, kind.what+", MaxBytes bytes, right", impl.CarryRight(src, dst, kind.proto, data), true)
		if impl.CarrySum(src, dst, kind.proto, data) != 65535 {
			t.Errorf("%s: the sum of MaxBytes bytes is not 65535", kind.what)
		}
		wantAnswer(t, kind.what+", one byte more", impl.CarryRight(src, dst, kind.proto, data+"\x00"), false)
		wantNumber(t, kind.what+", the sum of one byte more", impl.CarrySum(src, dst, kind.proto, data+"\x00"), 0)
	}
}

func TestRightChecksAndWrongOnes(t *testing.T) {
	for _, kind := range carriedKinds {
		for _, rest := range []string{"", "x", "hi", filler(40), filler(1333)} {
			f := flowAs(kind.proto, kind.size, 1024, 80)
			data := carriedAs(f, false, rest)
			what := fmt.Sprintf("%s, %d bytes behind", kind.what, len(rest))
			wantAnswer(t, what, impl.CarryRight(f.Src, f.Dst, f.Proto, data), true)
			wantAnswer(t, what+", turned round", impl.CarryRight(f.Dst, f.Src, f.Proto, data), true)
			other := impl.CarryRight(f.Src, withBitFlipped(f.Dst, 9), f.Proto, data)
			wantAnswer(t, what+", from elsewhere", other, kind.proto == 1)
			for at := range data {
				if at/2 == kind.check/2 && kind.what == "UDP of fours" {
					continue
				}
				wantAnswer(t, fmt.Sprintf("%s, the byte at %d turned", what, at),
					impl.CarryRight(f.Src, f.Dst, f.Proto, turnedAt(data, at, 1)), false)
			}
			for _, check := range someWords {
				wantSums(t, fmt.Sprintf("%s, check %d", what, check), f.Src, f.Dst, f.Proto, withWord(data, kind.check, check))
			}
		}
	}
}

// A word of 0 at 6 stands for no check of Udp between fours, and nowhere else.
func TestNoCheckOfUdp(t *testing.T) {
	four, six, far := insideOf(4), insideOf(16), outsideOf(16)
	bare := "\x04\x00\x00\x35\x00\x0a\x00\x00hi"
	for _, c := range []struct {
		what  string
		src   string
		dst   string
		proto int64
		data  string
		want  bool
	}{
		{"ten bytes", four, four, 17, bare, true},
		{"just eight bytes", four, four, 17, bare[:8], true},
		{"seven bytes", four, four, 17, bare[:7], false},
		{"no bytes", four, four, 17, "", false},
		{"a check of 1", four, four, 17, withWord(bare, 6, 1), false},
		{"a check of 256", four, four, 17, withWord(bare, 6, 256), false},
		{"TCP", four, four, 6, bare, false},
		{"ICMP", four, four, 1, bare, false},
		{"no byte that is cut to 17", four, four, 256 + 17, bare, false},
		{"sixes", six, far, 17, bare, false},
		{"mixed", four, far, 17, bare, false},
		{"mixed the other way", six, four, 17, bare, false},
		{"no addresses", "abc", "abc", 17, bare, false},
		{"MaxBytes", four, four, 17, bare + filler(impl.MaxBytes-10), true},
		{"one more", four, four, 17, bare + filler(impl.MaxBytes-9), false},
	} {
		wantAnswer(t, c.what, impl.CarryRight(c.src, c.dst, c.proto, c.data), c.want)
	}
}

func TestCarrySetByHand(t *testing.T) {
	six := impl.Flow{Src: addressOf("2001:db8::1"), Dst: addressOf("64:ff9b::c000:221")}
	four := impl.Flow{Src: addressOf("203.0.113.1"), Dst: addressOf("192.0.2.33")}
	inside := impl.Flow{Src: addressOf("10.0.0.1"), Dst: addressOf("192.0.2.33")}
	as := func(f impl.Flow, proto int64, src int64, dst int64) impl.Flow {
		f.Proto, f.SrcPort, f.DstPort = proto, src, dst
		return f
	}
	for _, c := range []struct {
		what string
		f    impl.Flow
		g    impl.Flow
		data string
		want string
	}{
		{"UDP of sixes for fours", as(six, 17, 5353, 53), as(four, 17, 1025, 53),
			"\x14\xe9\x00\x35\x00\x0a\x92\x77hi", "\x04\x01\x00\x35\x00\x0a\x95\x17hi"},
		{"TCP of fours for fours", as(inside, 6, 40000, 80), as(four, 6, 1031, 80),
			"\x9c\x40\x00\x50\x01\x02\x03\x04\x00\x00\x00\x00\x50\x02\x03\xe8\x3f\x42\x00\x00",
			"\x04\x07\x00\x50\x01\x02\x03\x04\x00\x00\x00\x00\x50\x02\x03\xe8\xa5\x7a\x00\x00"},
		{"TCP of fours for sixes", as(four, 6, 1031, 80), as(six, 6, 1031, 80),
			"\x04\x07\x00\x50\x01\x02\x03\x04\x00\x00\x00\x00\x50\x02\x03\xe8\xa5\x7a\x00\x00",
			"\x04\x07\x00\x50\x01\x02\x03\x04\x00\x00\x00\x00\x50\x02\x03\xe8\xb3\xc2\x00\x00"},
		{"ICMP for ICMPv6", as(four, 1, 4660, 4660), as(six, 58, 1029, 1029),
			"\x08\x00\x21\x68\x12\x34\x00\x01abc", "\x80\x00\xc7\x75\x04\x05\x00\x01abc"},
		{"ICMPv6 for ICMP", as(six, 58, 1029, 1029), as(inside, 1, 4660, 4660),
			"\x80\x00\xc7\x75\x04\x05\x00\x01abc", "\x08\x00\x21\x68\x12\x34\x00\x01abc"},
		{"an answer of ICMP for another port", as(four, 1, 1, 1), as(inside, 1, 2, 2),
			"\x00\x00\xff\xfd\x00\x01\x00\x01", "\x00\x00\xff\xfc\x00\x02\x00\x01"},
	} {
		wantData(t, c.what, impl.CarrySet(c.f, c.g, c.data), impl.DataOut{Data: c.want})
		wantAnswer(t, c.what+": right", impl.CarryRight(c.g.Src, c.g.Dst, c.g.Proto, c.want), true)
	}
}

// flowsToSet are right flows of each kind, with ports and addresses at the edges among them.
func flowsToSet() []impl.Flow {
	var flows []impl.Flow
	for _, kind := range carriedKinds {
		for _, ports := range [][2]int64{{0, 0}, {1, 65535}, {65535, 0}, {1024, 80}} {
			flows = append(flows, flowAs(kind.proto, kind.size, ports[0], ports[1]))
		}
		for _, a := range madeAddresses(kind.size, 1) {
			flows = append(flows, flowWith(flowAs(kind.proto, kind.size, 5, 6), func(f *impl.Flow) { f.Src, f.Dst = a, a }))
		}
	}
	return flows
}

// Promise 7, for data with the checks that are right, near it, and at the edges of a word: what is set
// for another flow is right just if it was, and set back tells the first one.
func TestSetForAnotherFlow(t *testing.T) {
	flows := flowsToSet()
	for _, f := range flows {
		at := checkPlaceOf(f.Proto)
		for _, answers := range []bool{false, true} {
			for _, rest := range []string{"", "\x00", "odd", filler(30)} {
				right := carriedAs(f, answers, rest)
				check := impl.Word(right, int64(at))
				for _, word := range []int64{check, check ^ 1, check ^ 256, 65535 - check, 0, 1, 65534, 65535} {
					data := withWord(right, at, word)
					for _, g := range flows {
						wantSetAndBack(t, f, g, data)
					}
				}
			}
		}
	}
}

func wantSetAndBack(t *testing.T, f impl.Flow, g impl.Flow, data string) {
	t.Helper()
	what := fmt.Sprintf("%.60q of %s for %s", data, flowText(f), flowText(g))
	out := impl.CarrySet(f, g, data)
	wantData(t, what, out, dataFor(f, g, data))
	if out.Code != impl.OK {
		return
	}
	wantFlow(t, what+": its flow", impl.FlowOf(g.Src, g.Dst, g.Proto, out.Data), impl.FlowOut{Flow: g})
	was := impl.CarryRight(f.Src, f.Dst, f.Proto, data)
	if strings.Trim(pseudoOf(f.Src, f.Dst, f.Proto, len(data))+data, "\x00") != "" {
		wantAnswer(t, what+": right", impl.CarryRight(g.Src, g.Dst, g.Proto, out.Data), was)
	}
	back := impl.CarrySet(g, f, out.Data)
	wantFlow(t, what+": the first flow", impl.FlowOf(f.Src, f.Dst, f.Proto, back.Data), impl.FlowOut{Flow: f})
	// All comes back, but a check of 0 that is turned comes back as its like, 65535.
	at := checkPlaceOf(f.Proto)
	first := impl.Word(data, int64(at))
	if first == 0 && (f.Proto != 17 || len(f.Src) == 16) {
		first = 65535
	}
	wantData(t, what+": set back", back, impl.DataOut{Data: withWord(data, at, first)})
}

// What is right, set for another flow, has the check that is reckoned anew from all the data.
func TestSetAsReckonedAnew(t *testing.T) {
	d := dice(6)
	for range 3000 {
		f, g := d.flow(d.upTo(5)), d.flow(d.upTo(5))
		if !sameKind(f.Proto, g.Proto) {
			continue
		}
		answers, rest := d.yes(), d.text(d.upTo(60))
		want := carriedAs(g, answers, rest)
		wantData(t, flowText(f)+" for "+flowText(g), impl.CarrySet(f, g, carriedAs(f, answers, rest)), impl.DataOut{Data: want})
	}
}

// flow is a right one of the kind of that number.
func (d *dice) flow(number int64) impl.Flow {
	kind := carriedKinds[number]
	f := flowAs(kind.proto, kind.size, d.upTo(65535), d.upTo(65535))
	f.Src, f.Dst = d.text(int64(kind.size)), d.text(int64(kind.size))
	return f
}

// Among all ports there is one for which the check comes to 0; there, and nowhere else, it is 65535.
func TestCheckThatComesToZero(t *testing.T) {
	for _, from := range carriedKinds {
		for _, to := range carriedKinds {
			if !sameKind(from.proto, to.proto) {
				continue
			}
			f, g := flowAs(from.proto, from.size, 4000, 80), flowAs(to.proto, to.size, 0, 80)
			data, count := carriedAs(f, false, "hi"), 0
			for port := range int64(65536) {
				g = flowAs(to.proto, to.size, port, 80)
				next := impl.CarrySet(f, g, data).Data
				word := impl.Word(next, int64(to.check))
				if word == 65535 {
					count++
				}
				if word == 0 || !impl.CarryRight(g.Src, g.Dst, g.Proto, next) {
					t.Fatalf("%s for %s: the check %d for port %d", from.what, to.what, word, port)
				}
			}
			// The ports 0 and 65535 are alike in the sum, so one word comes about twice.
			if count < 1 || count > 2 {
				t.Errorf("%s for %s: %d ports have the check 65535", from.what, to.what, count)
			}
		}
	}
}

// The two checks that are alike, set for the same flow again, are both 65535.
func TestChecksThatAreAlike(t *testing.T) {
	for _, kind := range carriedKinds {
		for rest := range int64(65536) {
			f := flowAs(kind.proto, kind.size, 4000, 80)
			data := carriedAs(f, false, impl.WordBytes(rest))
			if impl.Word(data, int64(kind.check)) != 65535 {
				continue
			}
			zero := withWord(data, kind.check, 0)
			wantAnswer(t, kind.what+": a check of 0", impl.CarryRight(f.Src, f.Dst, f.Proto, zero), true)
			want := impl.DataOut{Data: data}
			switch kind.what {
			case "UDP of fours":
				want = impl.DataOut{Data: zero}
			case "UDP of sixes":
				want = impl.DataOut{Code: impl.ErrSum}
			}
			wantData(t, kind.what+": 0 set again", impl.CarrySet(f, f, zero), want)
			wantData(t, kind.what+": 65535 set again", impl.CarrySet(f, f, data), impl.DataOut{Data: data})
		}
	}
}

// Data of ICMP that are nothing but zeros are not right, and yet are once they are set: the promise leaves them out.
func TestAllZeroOfIcmp(t *testing.T) {
	f := flowAs(1, 4, 0, 0)
	zero := strings.Repeat("\x00", 8)
	wantAnswer(t, "zeros", impl.CarryRight(f.Src, f.Dst, 1, zero), false)
	wantData(t, "zeros set again", impl.CarrySet(f, f, zero), impl.DataOut{Data: "\x00\x00\xff\xff\x00\x00\x00\x00"})
	g := flowAs(1, 4, 9, 0)
	wantData(t, "zeros set for a port", impl.CarrySet(f, g, zero), impl.DataOut{Data: "\x00\x00\xff\xf6\x00\x09\x00\x00"})
	right := "\x00\x00\xff\xf6\x00\x09\x00\x00"
	wantData(t, "set for nothing but zeros", impl.CarrySet(g, f, right), impl.DataOut{Data: "\x00\x00\xff\xff\x00\x00\x00\x00"})
	h := flowAs(58, 16, 0, 0)
	wantData(t, "zeros set for sixes", impl.CarrySet(f, h, zero), impl.DataOut{Data: checked(h, "\x81\x00\x00\x00\x00\x00\x00\x00")})
}

func TestUdpWithoutCheck(t *testing.T) {
	four, other := flowAs(17, 4, 1000, 53), flowWith(flowAs(17, 4, 7, 8), func(f *impl.Flow) { f.Src = "wxyz" })
	six, far := flowAs(17, 16, 1000, 53), flowWith(flowAs(17, 16, 7, 8), func(f *impl.Flow) { f.Src = filler(16) })
	bare := layCarried(four, false, "hi")
	for _, c := range []struct {
		what string
		f    impl.Flow
		g    impl.Flow
		want impl.DataOut
	}{
		{"fours for fours", four, other, impl.DataOut{Data: "\x00\x07\x00\x08\x00\x0a\x00\x00hi"}},
		{"fours for the same", four, four, impl.DataOut{Data: bare}},
		{"fours for sixes", four, six, impl.DataOut{Code: impl.ErrSum}},
		{"fours for other sixes", four, far, impl.DataOut{Code: impl.ErrSum}},
		{"sixes for sixes", six, far, impl.DataOut{Code: impl.ErrSum}},
		{"sixes for the same", six, six, impl.DataOut{Code: impl.ErrSum}},
	} {
		wantData(t, c.what, impl.CarrySet(c.f, c.g, bare), c.want)
	}
	// Of sixes a check of 0 is one that is wrong, and is not to be taken for none of fours.
	next := impl.CarrySet(six, other, bare)
	wantNumber(t, "sixes for fours", next.Code, impl.OK)
	wantAnswer(t, "sixes for fours: right", impl.CarryRight(other.Src, other.Dst, 17, next.Data), false)
	wantData(t, "sixes for fours: set back", impl.CarrySet(other, six, next.Data), impl.DataOut{Data: withWord(bare, 6, 65535)})
}

func TestSetForAnotherKind(t *testing.T) {
	for _, from := range carriedKinds {
		f := flowAs(from.proto, from.size, 1000, 53)
		data := carriedAs(f, true, filler(24))
		for _, to := range carriedKinds {
			code := int64(impl.ErrForm)
			if sameKind(from.proto, to.proto) {
				code = impl.OK
			}
			out := impl.CarrySet(f, flowAs(to.proto, to.size, 7, 8), data)
			wantNumber(t, from.what+" for "+to.what, out.Code, code)
			if code != impl.OK {
				wantText(t, from.what+" for "+to.what, out.Data, "")
			}
		}
	}
}

// wrongFlows are flows near a right one that are none.
func wrongFlows(f impl.Flow) []impl.Flow {
	wrong := []impl.Flow{{},
		flowWith(f, func(f *impl.Flow) { f.Src, f.Dst = f.Src[1:], f.Dst[1:] }),
		flowWith(f, func(f *impl.Flow) { f.Src, f.Dst = "", "" }),
		flowWith(f, func(f *impl.Flow) { f.Src, f.Dst = filler(impl.MaxBytes+1), filler(impl.MaxBytes+1) }),
		flowWith(f, func(f *impl.Flow) { f.Src = insideOf(20 - len(f.Src)) }),
		flowWith(f, func(f *impl.Flow) { f.Dst = outsideOf(20 - len(f.Dst)) })}
	for _, proto := range otherProtos {
		wrong = append(wrong, flowWith(f, func(f *impl.Flow) { f.Proto = proto }))
	}
	for _, n := range noWords {
		wrong = append(wrong, flowWith(f, func(f *impl.Flow) { f.SrcPort = n }), flowWith(f, func(f *impl.Flow) { f.DstPort = n }),
			flowWith(f, func(f *impl.Flow) { f.SrcPort, f.DstPort = n, n }))
	}
	if f.Proto == 1 || f.Proto == 58 {
		wrong = append(wrong, flowWith(f, func(f *impl.Flow) { f.Proto = 59 - f.Proto }),
			flowWith(f, func(f *impl.Flow) { f.SrcPort++ }), flowWith(f, func(f *impl.Flow) { f.DstPort++ }))
	}
	return wrong
}

func TestSetOfWrongFlows(t *testing.T) {
	refused := impl.DataOut{Code: impl.ErrForm}
	for _, kind := range carriedKinds {
		f := flowAs(kind.proto, kind.size, 1000, 53)
		data := carriedAs(f, false, "some data")
		for i, wrong := range wrongFlows(f) {
			what := fmt.Sprintf("%s, wrong flow %d", kind.what, i)
			wantFlowRight(t, what, wrong, false)
			wantData(t, what+" of the data", impl.CarrySet(wrong, f, data), refused)
			wantData(t, what+" to be set for", impl.CarrySet(f, wrong, data), refused)
			wantData(t, what+" of both", impl.CarrySet(wrong, wrong, data), refused)
		}
	}
}

// A flow may be right, and yet not the one that the data tell.
func TestSetOfAnotherFlow(t *testing.T) {
	refused := impl.DataOut{Code: impl.ErrForm}
	for _, kind := range carriedKinds {
		f := flowAs(kind.proto, kind.size, 1000, 53)
		data := carriedAs(f, false, filler(24))
		others := []impl.Flow{flowAs(kind.proto, kind.size, 1001, 53), flowAs(kind.proto, kind.size, 0, 0)}
		if kind.proto == 6 || kind.proto == 17 {
			others = append(others, flowAs(kind.proto, kind.size, 1000, 54), flowAs(kind.proto, kind.size, 53, 1000))
		}
		for _, other := range others {
			wantFlowRight(t, kind.what, other, true)
			wantData(t, kind.what+": another flow of the data", impl.CarrySet(other, f, data), refused)
			wantData(t, kind.what+": both another", impl.CarrySet(other, other, data), refused)
			wantNumber(t, kind.what+": another to be set for", impl.CarrySet(f, other, data).Code, impl.OK)
		}
		// Addresses do not stand in the data: by them the flow cannot be known for another.
		elsewhere := flowWith(f, func(f *impl.Flow) { f.Src = f.Dst })
		wantData(t, kind.what+": from elsewhere", impl.CarrySet(elsewhere, f, data), dataFor(elsewhere, f, data))
	}
	ask, ask6 := flowAs(1, 4, 7, 7), flowAs(58, 16, 7, 7)
	wantData(t, "data of ICMPv6 as of ICMP", impl.CarrySet(ask, ask6, carriedAs(ask6, false, "")), refused)
	wantData(t, "data of ICMP as of ICMPv6", impl.CarrySet(ask6, ask, carriedAs(ask, true, "")), refused)
}

// Faults of CarrySet, each beside one that the document names later.
func TestSetFaultsMeet(t *testing.T) {
	four, six := flowAs(17, 4, 1000, 53), flowAs(17, 16, 1000, 53)
	bare := layCarried(four, false, "hi")
	wrong := flowWith(six, func(f *impl.Flow) { f.SrcPort = 65536 })
	long := bare + filler(impl.MaxBytes+1-len(bare))
	for _, c := range []struct {
		what string
		f    impl.Flow
		g    impl.Flow
		data string
		code int64
	}{
		{"too long, wrong flows", impl.Flow{}, impl.Flow{}, long, impl.ErrSize},
		{"too long, no check for sixes", four, six, long, impl.ErrSize},
		{"too long, nothing else", four, four, long, impl.ErrSize},
		{"no check for sixes, a wrong flow of the data", wrong, six, bare, impl.ErrForm},
		{"no check for sixes, a wrong flow to be set for", four, wrong, bare, impl.ErrForm},
		{"no check for sixes, another flow of the data", flowAs(17, 4, 1001, 53), six, bare, impl.ErrForm},
		{"no check for sixes, of TCP", four, flowAs(6, 16, 1000, 53), bare, impl.ErrForm},
		{"no check for sixes, too short", four, six, bare[:7], impl.ErrForm},
		{"no check for sixes", four, six, bare, impl.ErrSum},
		{"no check for sixes, MaxBytes", four, six, long[:impl.MaxBytes], impl.ErrSum},
	} {
		wantData(t, c.what, impl.CarrySet(c.f, c.g, c.data), impl.DataOut{Code: c.code})
	}
	most := checked(four, long[:impl.MaxBytes])
	out := impl.CarrySet(four, six, most)
	wantNumber(t, "MaxBytes", out.Code, impl.OK)
	wantAnswer(t, "MaxBytes, right", impl.CarryRight(six.Src, six.Dst, 17, out.Data), true)
}

func TestTcpFlags(t *testing.T) {
	text := filler(40)
	for n := range len(text) + 1 {
		want := int64(0)
		if n >= 20 {
			want = int64(text[13])
		}
		wantNumber(t, fmt.Sprintf("%d bytes", n), impl.TcpFlags(text[:n]), want)
	}
	for flags := range 256 {
		data := strings.Repeat("\xff", 13) + string([]byte{byte(flags)}) + strings.Repeat("\xff", 6)
		wantNumber(t, "flags", impl.TcpFlags(data), int64(flags))
	}
	most := filler(impl.MaxBytes)
	wantNumber(t, "MaxBytes", impl.TcpFlags(most), int64(most[13]))
	wantNumber(t, "one more", impl.TcpFlags(most+"\x00"), 0)
}

// Flows and data by chance, right ones and wrong ones: what is told is as the document's words reckon it.
func TestMadeFlows(t *testing.T) {
	d := dice(7)
	numbers := []int64{0, 1, 65535, 65536, -1, math.MinInt64, math.MaxInt64}
	met := map[int64]int{}
	for range 20000 {
		f, g := d.flow(d.upTo(5)), d.flow(d.upTo(5))
		data := layCarried(f, d.yes(), d.text(d.upTo(12)))
		switch d.upTo(9) {
		case 0:
			f.SrcPort = numbers[d.upTo(6)]
		case 1:
			g.DstPort = numbers[d.upTo(6)]
		case 2:
			f.Proto = carriedKinds[d.upTo(5)].proto
		case 3:
			data = data[:d.upTo(int64(len(data)))]
		case 4:
			data = turnedAt(data, int(d.upTo(int64(len(data)-1))), int(d.upTo(255)))
		case 5:
			f.Dst = g.Dst
		default:
			data = checked(f, data)
		}
		what := fmt.Sprintf("%q of %s for %s", data, flowText(f), flowText(g))
		wantFlowRight(t, what, f, flowIsRight(f))
		wantFlowRight(t, what, g, flowIsRight(g))
		wantFlow(t, what, impl.FlowOf(f.Src, f.Dst, f.Proto, data), flowTold(f.Src, f.Dst, f.Proto, data))
		wantSums(t, what, f.Src, f.Dst, f.Proto, data)
		out := impl.CarrySet(f, g, data)
		wantData(t, what, out, dataFor(f, g, data))
		met[out.Code]++
	}
	if met[impl.OK] < 1000 || met[impl.ErrForm] < 1000 || met[impl.ErrSum] < 10 {
		t.Errorf("codes that were met: %v", met)
	}
}
