package tests

import (
	"fmt"
	"math"
	"slices"
	"strings"
	"testing"
	"unsafe"

	"loop.example/g00314/impl"
)

// noTimes are numbers just outside of the times, and far outside of them.
var noTimes = []int64{-1, -30, -1000000000, 1000000001, 1000000030, 1 << 32, math.MinInt64, math.MaxInt64}

// partAt is a right piece, if off and length are so, of a packet that is always the same one.
func partAt(off int64, length int, more bool) impl.Piece {
	return impl.Piece{Src: addressOf("192.0.2.1"), Dst: addressOf("198.51.100.254"), Proto: 17, Id: 43981,
		Off: off, More: more, Data: filler(length), Since: 100}
}

func partWith(p impl.Piece, change func(p *impl.Piece)) impl.Piece {
	change(&p)
	return p
}

// numberedPart is like partAt, of the packet of another Id, and known by its Since.
func numberedPart(id int64, off int64, length int, more bool, since int64) impl.Piece {
	return partWith(partAt(off, length, more), func(p *impl.Piece) { p.Id, p.Since = id, since })
}

// otherPackets are the piece as one of other packets, each told from its own by one field alone.
func otherPackets(p impl.Piece) []impl.Piece {
	return []impl.Piece{
		partWith(p, func(p *impl.Piece) { p.Src = addressOf("192.0.2.2") }),
		partWith(p, func(p *impl.Piece) { p.Dst = addressOf("198.51.100.253") }),
		partWith(p, func(p *impl.Piece) { p.Src, p.Dst = p.Dst, p.Src }),
		partWith(p, func(p *impl.Piece) { p.Src, p.Dst = p.Src+strings.Repeat("\x00", 12), p.Dst+strings.Repeat("\x00", 12) }),
		partWith(p, func(p *impl.Piece) { p.Proto = 6 }),
		partWith(p, func(p *impl.Piece) { p.Id += 65536 }),
		partWith(p, func(p *impl.Piece) { p.Id++ }),
	}
}

// pieceIsRight asks the document's words one by one.
func pieceIsRight(p impl.Piece) bool {
	length := int64(len(p.Data))
	switch {
	case !addressesMatch(p.Src, p.Dst), !among(p.Proto, 0, 255), !among(p.Id, 0, 4294967295), !among(p.Off, 0, 8191):
		return false
	case !among(length, 1, 1400), p.More && length&7 != 0, p.Off*8+length > 65535, !among(p.Since, 0, 1000000000):
		return false
	}
	return true
}

// ofPacket are those of a list that are of p's packet, and the others.
func ofPacket(l []impl.Piece, p impl.Piece) (mine []impl.Piece, others []impl.Piece) {
	for _, q := range l {
		if q.Src == p.Src && q.Dst == p.Dst && q.Proto == p.Proto && q.Id == p.Id {
			mine = append(mine, q)
		} else {
			others = append(others, q)
		}
	}
	return mine, others
}

// packetIsRight marks each byte of right pieces of one packet, and tells its data, if all are there.
func packetIsRight(l []impl.Piece) (data string, done bool, right bool) {
	most := 0
	for _, p := range l {
		most = max(most, 8*int(p.Off)+len(p.Data))
	}
	text, marks := make([]byte, most), make([]byte, most)
	lasts, end, count := 0, most, 0
	for _, p := range l {
		for i := range len(p.Data) {
			at := 8*int(p.Off) + i
			if marks[at] != 0 {
				return "", false, false
			}
			text[at], marks[at] = p.Data[i], 1
			count++
		}
		if !p.More {
			lasts++
			end = 8*int(p.Off) + len(p.Data)
		}
	}
	if lasts > 1 || strings.Trim(string(marks[end:]), "\x00") != "" {
		return "", false, false
	}
	if lasts == 0 || count != end {
		return "", false, true
	}
	return string(text[:end]), true, true
}

// piecesAreRight asks packet by packet.
func piecesAreRight(l []impl.Piece) bool {
	if len(l) > 40 {
		return false
	}
	for _, p := range l {
		if !pieceIsRight(p) {
			return false
		}
	}
	for rest := l; len(rest) > 0; {
		mine, others := ofPacket(rest, rest[0])
		if _, _, right := packetIsRight(mine); !right {
			return false
		}
		rest = others
	}
	return true
}

// addedTo adds as the document's words say, fault by fault in their order.
func addedTo(l []impl.Piece, p impl.Piece, now int64) impl.PieceOut {
	switch {
	case len(l) > 400:
		return impl.PieceOut{Code: impl.ErrSize}
	case !piecesAreRight(l), !pieceIsRight(p), !among(now, 0, 1000000000):
		return impl.PieceOut{Code: impl.ErrForm}
	}
	mine, others := ofPacket(l, p)
	p.Since = now
	if len(mine) > 0 {
		p.Since = mine[0].Since
	}
	data, done, right := packetIsRight(append(slices.Clone(mine), p))
	switch {
	case !right:
		return impl.PieceOut{Pieces: others, Code: impl.ErrFrag}
	case len(l) == 40:
		return impl.PieceOut{Pieces: l, Code: impl.ErrFull}
	case done:
		return impl.PieceOut{Pieces: others, Data: data, Done: true}
	}
	return impl.PieceOut{Pieces: append(slices.Clone(l), p)}
}

// youngOf are those that are left at a time.
func youngOf(l []impl.Piece, now int64) []impl.Piece {
	if !piecesAreRight(l) || !among(now, 0, 1000000000) {
		return nil
	}
	return slices.DeleteFunc(slices.Clone(l), func(p impl.Piece) bool { return now-p.Since >= 30 })
}

// partsText tells pieces for what is told of a fault.
func partsText(l []impl.Piece) string {
	var b strings.Builder
	for _, p := range l {
		fmt.Fprintf(&b, " (%.8q %.8q %d %d: %d+%d %v since %d)", p.Src, p.Dst, p.Proto, p.Id, p.Off, len(p.Data), p.More, p.Since)
	}
	return fmt.Sprintf("%d pieces%s", len(l), b.String())
}

func wantParts(t *testing.T, what string, got []impl.Piece, want []impl.Piece) {
	t.Helper()
	if !slices.Equal(got, want) {
		t.Errorf("%s: got %s, want %s", what, partsText(got), partsText(want))
	}
}

func wantAdded(t *testing.T, what string, got impl.PieceOut, want impl.PieceOut) {
	t.Helper()
	wantParts(t, what, got.Pieces, want.Pieces)
	if got.Data != want.Data || got.Done != want.Done || got.Code != want.Code {
		t.Errorf("%s: got %.40q of %d bytes, done %v, code %d, want %.40q of %d bytes, %v, %d", what,
			got.Data, len(got.Data), got.Done, got.Code, want.Data, len(want.Data), want.Done, want.Code)
	}
}

// wantPieceAs asks one piece of all calls that take one, alone and in lists.
func wantPieceAs(t *testing.T, what string, p impl.Piece, right bool) {
	t.Helper()
	other := numberedPart(7, 1, 8, true, 5)
	wantAnswer(t, what+": PieceRight", impl.PieceRight(p), right)
	wantAnswer(t, what+": PiecesRight", impl.PiecesRight([]impl.Piece{p}), right)
	wantAnswer(t, what+": PiecesRight behind another", impl.PiecesRight([]impl.Piece{other, p}), right)
	young := impl.PieceTick([]impl.Piece{other, p}, 0)
	added := impl.PieceAdd([]impl.Piece{other}, p, 9)
	inList := impl.PieceAdd([]impl.Piece{p}, other, 9)
	if !right {
		wantParts(t, what+": ticked", young, nil)
		wantAdded(t, what+": added", added, impl.PieceOut{Code: impl.ErrForm})
		wantAdded(t, what+": in the list", inList, impl.PieceOut{Code: impl.ErrForm})
		return
	}
	wantParts(t, what+": ticked", young, []impl.Piece{other, p})
	wantParts(t, what+": in the list", inList.Pieces, []impl.Piece{p, partWith(other, func(p *impl.Piece) { p.Since = 9 })})
	if p.Off == 0 && !p.More {
		wantAdded(t, what+": added", added, impl.PieceOut{Pieces: []impl.Piece{other}, Data: p.Data, Done: true})
	} else {
		p.Since = 9
		wantAdded(t, what+": added", added, impl.PieceOut{Pieces: []impl.Piece{other, p}})
	}
}

func TestLimitsOfPieces(t *testing.T) {
	wantNumber(t, "MaxPieces", impl.MaxPieces, 40)
	wantNumber(t, "PieceTime", impl.PieceTime, 30)
}

func TestNumbersOfPieces(t *testing.T) {
	for _, field := range []struct {
		what  string
		set   func(p *impl.Piece, n int64)
		right []int64
		wrong []int64
	}{
		{"Proto", func(p *impl.Piece, n int64) { p.Proto = n }, []int64{0, 1, 17, 44, 58, 254, 255}, noBytes},
		{"Id", func(p *impl.Piece, n int64) { p.Id = n }, []int64{0, 1, 65535, 65536, 1<<31 - 1, 1 << 31, 4294967294, 4294967295},
			[]int64{-1, 4294967296, 4294967297, -4294967295, math.MinInt64, math.MaxInt64}},
		{"Off", func(p *impl.Piece, n int64) { p.Off, p.More, p.Data = n, false, "1234567" }, []int64{0, 1, 4095, 4096, 8190, 8191},
			[]int64{-1, -8191, 8192, 8193, 16383, 65535, 1 << 32, 1 << 61, 1<<61 + 1, math.MinInt64, math.MaxInt64}},
		{"Since", func(p *impl.Piece, n int64) { p.Since = n }, []int64{0, 1, 29, 30, 31, 999999999, 1000000000}, noTimes},
	} {
		for _, n := range field.right {
			wantPieceAs(t, fmt.Sprintf("%s of %d", field.what, n), partWith(partAt(3, 16, true), func(p *impl.Piece) { field.set(p, n) }), true)
		}
		for _, n := range field.wrong {
			wantPieceAs(t, fmt.Sprintf("%s of %d", field.what, n), partWith(partAt(3, 16, true), func(p *impl.Piece) { field.set(p, n) }), false)
		}
	}
	wantPieceAs(t, "the zero Piece", impl.Piece{}, false)
}

func TestAddressesOfPieces(t *testing.T) {
	for _, pair := range addressPairs() {
		p := partWith(partAt(3, 16, true), func(p *impl.Piece) { p.Src, p.Dst = pair[0], pair[1] })
		wantPieceAs(t, fmt.Sprintf("between %d and %d bytes", len(pair[0]), len(pair[1])), p, addressesMatch(pair[0], pair[1]))
	}
}

func TestDataOfPieces(t *testing.T) {
	lengths := []int{0, 1, 2, 4, 7, 8, 9, 12, 15, 16, 17, 1391, 1392, 1393, 1399, 1400, 1401, 1407, 1408, 8000, impl.MaxBytes, impl.MaxBytes + 1}
	for _, length := range lengths {
		for _, off := range []int64{0, 1, 100} {
			what := fmt.Sprintf("%d bytes at %d", length, off)
			wantPieceAs(t, what, partAt(off, length, false), length >= 1 && length <= 1400)
			wantPieceAs(t, what+" with More", partAt(off, length, true), length >= 1 && length <= 1400 && length%8 == 0)
		}
	}
}

func TestEndsOfPieces(t *testing.T) {
	for _, c := range []struct {
		off    int64
		length int
		more   bool
		right  bool
	}{
		{8191, 1, false, true},
		{8191, 7, false, true},  // 65535
		{8191, 8, false, false}, // 65536
		{8191, 9, false, false},
		{8191, 8, true, false},
		{8190, 8, true, true},
		{8190, 15, false, true}, // 65535
		{8190, 16, false, false},
		{8190, 16, true, false},
		{8016, 1400, true, true},
		{8016, 1400, false, true},
		{8017, 1392, true, true},
		{8017, 1399, false, true}, // 65535
		{8017, 1400, false, false},
		{8017, 1400, true, false},
		{8191, 1400, false, false},
	} {
		wantPieceAs(t, fmt.Sprintf("%d bytes at %d, More %v", c.length, c.off, c.more), partAt(c.off, c.length, c.more), c.right)
	}
}

// rowOfPieces are so many of one packet, each touching the one ahead of it, none of them the last.
func rowOfPieces(count int) []impl.Piece {
	var row []impl.Piece
	for i := range count {
		row = append(row, numberedPart(43981, int64(i)+1, 8, true, int64(i)))
	}
	return row
}

// flockOfPieces are so many of as many packets.
func flockOfPieces(count int) []impl.Piece {
	var flock []impl.Piece
	for i := range count {
		flock = append(flock, numberedPart(int64(i), 2, 8, true, int64(i)))
	}
	return flock
}

func TestManyPieces(t *testing.T) {
	for _, lay := range []func(count int) []impl.Piece{rowOfPieces, flockOfPieces} {
		for _, count := range []int{0, 1, 2, 39, 40, 41, 42, 399, 400, 401, 402, 2000} {
			l := lay(count)
			p := numberedPart(70000, 4, 16, true, 3)
			what := fmt.Sprintf("%d pieces", count)
			wantAnswer(t, what, impl.PiecesRight(l), count <= 40)
			got := impl.PieceAdd(l, p, 50)
			p.Since = 50
			switch {
			case count < 40:
				wantAdded(t, what, got, impl.PieceOut{Pieces: append(slices.Clone(l), p)})
			case count == 40:
				wantAdded(t, what, got, impl.PieceOut{Pieces: l, Code: impl.ErrFull})
			case count <= 400:
				wantAdded(t, what, got, impl.PieceOut{Code: impl.ErrForm})
			default:
				wantAdded(t, what, got, impl.PieceOut{Code: impl.ErrSize})
			}
			young := impl.PieceTick(l, 20)
			if count <= 40 {
				wantParts(t, what+", ticked", young, l)
			} else {
				wantParts(t, what+", ticked", young, nil)
			}
		}
	}
	wantAnswer(t, "none", impl.PiecesRight(nil), true)
	wantAnswer(t, "an empty list", impl.PiecesRight([]impl.Piece{}), true)
	wantParts(t, "none, ticked", impl.PieceTick(nil, 0), nil)
}

// Two pieces of one packet, and whether both may be: each is 8 bytes a number of Off.
var pairsOfPieces = []struct {
	what string
	a    impl.Piece
	b    impl.Piece
	fit  bool
}{
	{"they touch", partAt(1, 8, true), partAt(2, 8, true), true},
	{"they lie apart", partAt(1, 8, true), partAt(9, 8, true), true},
	{"the last one touches", partAt(1, 8, true), partAt(2, 3, false), true},
	{"the last one lies apart", partAt(1, 16, true), partAt(8191, 7, false), true},
	{"the same twice", partAt(1, 8, true), partAt(1, 8, true), false},
	{"the last one twice", partAt(1, 8, false), partAt(1, 8, false), false},
	{"the same with and without More", partAt(1, 8, true), partAt(1, 8, false), false},
	{"the same beginning", partAt(1, 8, true), partAt(1, 16, true), false},
	{"the same end", partAt(1, 16, true), partAt(2, 8, true), false},
	{"one within the other", partAt(1, 24, true), partAt(2, 8, true), false},
	{"over by 8 bytes", partAt(1, 16, true), partAt(2, 16, true), false},
	{"over by a byte at the end", partAt(1, 16, true), partAt(2, 1, false), false},
	{"over by a byte in the midst", partAt(1, 24, true), partAt(2, 1, false), false},
	{"over by a byte at the beginning", partAt(1, 16, true), partAt(1, 1, false), false},
	{"the last one over the other by a byte", partAt(1, 9, false), partAt(2, 8, true), false},
	{"two without More, apart", partAt(1, 8, false), partAt(5, 8, false), false},
	{"two without More that touch", partAt(1, 8, false), partAt(2, 1, false), false},
	{"one touches the last one from behind", partAt(1, 8, false), partAt(2, 8, true), false},
	{"one lies behind the last one", partAt(1, 8, false), partAt(100, 8, true), false},
	{"one lies behind the last one, of 3 bytes", partAt(1, 3, false), partAt(2, 8, true), false},
	{"one lies behind a last one that has all", partAt(0, 3, false), partAt(1, 8, true), false},
	{"far ends", partAt(0, 8, true), partAt(8016, 1400, true), true},
}

// What is to be told of two pieces does not hang on which of them is there first.
func TestPairsOfPieces(t *testing.T) {
	for _, c := range pairsOfPieces {
		for _, pair := range [][2]impl.Piece{{c.a, c.b}, {c.b, c.a}} {
			what := fmt.Sprintf("%s, %d first", c.what, pair[0].Off)
			wantAnswer(t, what, impl.PiecesRight(pair[:]), c.fit)
			for _, far := range otherPackets(pair[1]) {
				two := []impl.Piece{pair[0], far}
				wantAnswer(t, what+", of two packets", impl.PiecesRight(two), true)
				wantAnswer(t, what+", another packet between", impl.PiecesRight([]impl.Piece{pair[0], far, pair[1]}), c.fit)
				got := impl.PieceAdd([]impl.Piece{pair[0], far}, pair[1], 130)
				if c.fit {
					wantAdded(t, what, got, impl.PieceOut{Pieces: []impl.Piece{pair[0], far, pair[1]}})
				} else {
					wantAdded(t, what, got, impl.PieceOut{Pieces: []impl.Piece{far}, Code: impl.ErrFrag})
				}
				if far.Off > 0 || far.More {
					far.Since = 130
					wantAdded(t, what+", of two packets", impl.PieceAdd([]impl.Piece{pair[0]}, far, 130), impl.PieceOut{Pieces: []impl.Piece{pair[0], far}})
				}
			}
		}
	}
}

// A piece is held against all that are there of its packet, not against the first or the last one alone.
func TestPieceBesideMany(t *testing.T) {
	l := []impl.Piece{partAt(20, 16, true), partAt(4, 16, true), partAt(30, 5, false), partAt(12, 8, true)}
	for off := range int64(40) {
		for _, length := range []int{1, 8, 16, 24, 64, 128, 200} {
			for _, more := range []bool{true, false} {
				p := partAt(off, length, more)
				if !pieceIsRight(p) {
					continue
				}
				from, to := off*8, off*8+int64(length)
				free := to <= 32 || from >= 48 && to <= 96 || from >= 104 && to <= 160 || from >= 176 && to <= 240
				want := impl.PieceOut{Code: impl.ErrFrag}
				if free && more {
					want = impl.PieceOut{Pieces: append(slices.Clone(l), p)}
				}
				what := fmt.Sprintf("%d bytes at %d, More %v", length, off, more)
				wantAdded(t, what, impl.PieceAdd(l, p, 100), want)
				wantAnswer(t, what, impl.PiecesRight(append(slices.Clone(l), p)), free && more)
				wantAnswer(t, what+" in front", impl.PiecesRight(append([]impl.Piece{p}, l...)), free && more)
			}
		}
	}
}

// mixedPackets are pieces of three packets among one another, with times of their own.
func mixedPackets() []impl.Piece {
	return []impl.Piece{numberedPart(1, 2, 16, true, 40), numberedPart(2, 2, 16, true, 30), numberedPart(3, 9, 8, true, 20),
		numberedPart(1, 6, 8, true, 10), numberedPart(2, 7, 9, false, 60), numberedPart(3, 1, 8, true, 25)}
}

func TestClashTakesItsPacket(t *testing.T) {
	l := mixedPackets()
	for _, c := range []struct {
		what string
		p    impl.Piece
		left []impl.Piece
	}{
		{"over one of the first packet", numberedPart(1, 3, 8, true, 0), []impl.Piece{l[1], l[2], l[4], l[5]}},
		{"a last one ahead of one of the first packet", numberedPart(1, 5, 8, false, 0), []impl.Piece{l[1], l[2], l[4], l[5]}},
		{"behind the last one of the second packet", numberedPart(2, 9, 8, true, 0), []impl.Piece{l[0], l[2], l[3], l[5]}},
		{"another last one of the second packet", numberedPart(2, 6, 1, false, 0), []impl.Piece{l[0], l[2], l[3], l[5]}},
		{"the same of the third packet", l[5], []impl.Piece{l[0], l[1], l[3], l[4]}},
	} {
		wantAdded(t, c.what, impl.PieceAdd(l, c.p, 99), impl.PieceOut{Pieces: c.left, Code: impl.ErrFrag})
	}
	alone := []impl.Piece{l[0], l[3]}
	wantAdded(t, "nothing is left", impl.PieceAdd(alone, l[0], 99), impl.PieceOut{Code: impl.ErrFrag})
}

// fullPieces are 40 pieces, the last two of one packet that lacks its beginning alone.
func fullPieces() []impl.Piece {
	return append(flockOfPieces(38), numberedPart(90, 1, 8, true, 5), numberedPart(90, 2, 3, false, 6))
}

func TestFullPieces(t *testing.T) {
	l := fullPieces()
	full := impl.PieceOut{Pieces: l, Code: impl.ErrFull}
	wantAdded(t, "one of a new packet", impl.PieceAdd(l, numberedPart(91, 1, 8, true, 0), 50), full)
	wantAdded(t, "a whole packet", impl.PieceAdd(l, numberedPart(91, 0, 8, false, 0), 50), full)
	wantAdded(t, "one of a packet that is there", impl.PieceAdd(l, numberedPart(3, 0, 8, true, 0), 50), full)
	wantAdded(t, "one that would bring its packet together", impl.PieceAdd(l, numberedPart(90, 0, 8, true, 0), 50), full)
	wantAdded(t, "one that lies over the last packet", impl.PieceAdd(l, numberedPart(90, 1, 8, true, 0), 50),
		impl.PieceOut{Pieces: l[:38], Code: impl.ErrFrag})
	wantAdded(t, "one behind the last one", impl.PieceAdd(l, numberedPart(90, 3, 8, true, 0), 50),
		impl.PieceOut{Pieces: l[:38], Code: impl.ErrFrag})
	wantAdded(t, "one that lies over the first packet", impl.PieceAdd(l, numberedPart(0, 2, 8, true, 0), 50),
		impl.PieceOut{Pieces: l[1:], Code: impl.ErrFrag})
	wantAdded(t, "39, and one that brings its packet together", impl.PieceAdd(l[1:], numberedPart(90, 0, 8, true, 0), 50),
		impl.PieceOut{Pieces: l[1:38], Data: filler(8) + filler(8) + filler(3), Done: true})
	wantAdded(t, "39, and a whole packet", impl.PieceAdd(l[1:], numberedPart(91, 0, 8, false, 0), 50),
		impl.PieceOut{Pieces: l[1:], Data: filler(8), Done: true})
	row := rowOfPieces(40)
	wantAdded(t, "a row, and its beginning", impl.PieceAdd(row, partAt(0, 8, true), 50), impl.PieceOut{Pieces: row, Code: impl.ErrFull})
	wantAdded(t, "a row, and one over it", impl.PieceAdd(row, partAt(40, 8, true), 50), impl.PieceOut{Code: impl.ErrFrag})
}

func TestSinceOfAdded(t *testing.T) {
	l := mixedPackets()
	for _, now := range []int64{0, 1, 39, 1000, 999999999, 1000000000} {
		for id, since := range map[int64]int64{1: 40, 2: 30, 3: 20, 4: now} {
			for _, own := range []int64{0, 77, 1000000000} {
				p := numberedPart(id, 0, 8, true, own)
				got := impl.PieceAdd(l, p, now)
				p.Since = since
				wantAdded(t, fmt.Sprintf("Id %d at %d, of %d", id, now, own), got, impl.PieceOut{Pieces: append(slices.Clone(l), p)})
			}
		}
		p := numberedPart(4, 0, 8, true, 5)
		got := impl.PieceAdd(nil, p, now)
		p.Since = now
		wantAdded(t, "the first of all", got, impl.PieceOut{Pieces: []impl.Piece{p}})
	}
}

func TestTicks(t *testing.T) {
	for _, since := range []int64{0, 1, 30, 500, 999999970, 999999971, 999999999, 1000000000} {
		p := numberedPart(5, 1, 8, true, since)
		for _, now := range []int64{0, since - 1, since, since + 1, since + 28, since + 29, since + 30, since + 31, since + 60, 1000000000} {
			if !among(now, 0, 1000000000) {
				continue
			}
			var want []impl.Piece
			if now < since+30 {
				want = []impl.Piece{p}
			}
			wantParts(t, fmt.Sprintf("since %d, at %d", since, now), impl.PieceTick([]impl.Piece{p}, now), want)
		}
	}
	l := mixedPackets()
	for _, c := range []struct {
		now  int64
		left []impl.Piece
	}{
		{0, l},
		{39, l},
		{40, []impl.Piece{l[0], l[1], l[2], l[4], l[5]}},
		{49, []impl.Piece{l[0], l[1], l[2], l[4], l[5]}},
		{50, []impl.Piece{l[0], l[1], l[4], l[5]}},
		{55, []impl.Piece{l[0], l[1], l[4]}},
		{60, []impl.Piece{l[0], l[4]}},
		{70, []impl.Piece{l[4]}},
		{89, []impl.Piece{l[4]}},
		{90, nil},
		{1000000000, nil},
	} {
		wantParts(t, fmt.Sprintf("at %d", c.now), impl.PieceTick(l, c.now), c.left)
	}
}

func TestPiecesAtNoTime(t *testing.T) {
	l := mixedPackets()
	for _, now := range noTimes {
		what := fmt.Sprintf("now is %d", now)
		wantParts(t, what, impl.PieceTick(l, now), nil)
		wantAdded(t, what+": a new packet", impl.PieceAdd(l, numberedPart(9, 1, 8, true, 0), now), impl.PieceOut{Code: impl.ErrForm})
		wantAdded(t, what+": one that has its time", impl.PieceAdd(l, numberedPart(1, 0, 8, true, 0), now), impl.PieceOut{Code: impl.ErrForm})
		wantAdded(t, what+": one over another", impl.PieceAdd(l, l[0], now), impl.PieceOut{Code: impl.ErrForm})
		wantAdded(t, what+": too many", impl.PieceAdd(fullPieces(), numberedPart(91, 1, 8, true, 0), now), impl.PieceOut{Code: impl.ErrForm})
		wantAdded(t, what+": a whole packet", impl.PieceAdd(nil, partAt(0, 8, false), now), impl.PieceOut{Code: impl.ErrForm})
		wantAdded(t, what+": far too many", impl.PieceAdd(flockOfPieces(401), partAt(0, 8, false), now), impl.PieceOut{Code: impl.ErrSize})
	}
}

// Faults of PieceAdd, each beside one that the document names later.
func TestPieceFaultsMeet(t *testing.T) {
	good, full := numberedPart(91, 1, 8, true, 0), fullPieces()
	bad := partWith(good, func(p *impl.Piece) { p.Data = "" })
	over := []impl.Piece{good, good}
	for _, c := range []struct {
		what string
		l    []impl.Piece
		p    impl.Piece
		now  int64
		want impl.PieceOut
	}{
		{"far too many, all else wrong", slices.Repeat([]impl.Piece{{}}, 401), bad, -1, impl.PieceOut{Code: impl.ErrSize}},
		{"far too many, the same", slices.Repeat([]impl.Piece{good}, 401), good, 1, impl.PieceOut{Code: impl.ErrSize}},
		{"too many, and over one of them", flockOfPieces(41), numberedPart(0, 2, 8, true, 0), 1, impl.PieceOut{Code: impl.ErrForm}},
		{"too many, and a new one", flockOfPieces(400), good, 1, impl.PieceOut{Code: impl.ErrForm}},
		{"a list that is not right, and one over it", over, good, 1, impl.PieceOut{Code: impl.ErrForm}},
		{"a list that is not right, and another packet", over, numberedPart(7, 0, 8, false, 0), 1, impl.PieceOut{Code: impl.ErrForm}},
		{"a full list that is not right", append(full[:39:39], full[0]), good, 1, impl.PieceOut{Code: impl.ErrForm}},
		{"a full list, and a wrong one", full, bad, 1, impl.PieceOut{Code: impl.ErrForm}},
		{"a wrong one over another", []impl.Piece{good}, partWith(good, func(p *impl.Piece) { p.Since = -1 }), 1, impl.PieceOut{Code: impl.ErrForm}},
		{"a wrong one of too many bytes", []impl.Piece{good}, numberedPart(91, 2, impl.MaxBytes+1, false, 0), 1, impl.PieceOut{Code: impl.ErrForm}},
		{"a full list, no time", full, good, -1, impl.PieceOut{Code: impl.ErrForm}},
		{"over another, no time", []impl.Piece{good}, good, -1, impl.PieceOut{Code: impl.ErrForm}},
		{"over another in a full list", full, full[39], 1, impl.PieceOut{Pieces: full[:38], Code: impl.ErrFrag}},
		{"a full list, and a whole packet", full, numberedPart(91, 0, 8, false, 0), 1, impl.PieceOut{Pieces: full, Code: impl.ErrFull}},
		{"a whole packet over another piece", []impl.Piece{good}, numberedPart(91, 0, 16, false, 0), 1, impl.PieceOut{Code: impl.ErrFrag}},
		{"a whole packet ahead of another piece", []impl.Piece{good}, numberedPart(91, 0, 8, false, 0), 1, impl.PieceOut{Code: impl.ErrFrag}},
	} {
		wantAdded(t, c.what, impl.PieceAdd(c.l, c.p, c.now), c.want)
		wantAdded(t, c.what+" (as reckoned)", addedTo(c.l, c.p, c.now), c.want)
	}
}

// sharesText tells whether two texts lie in the same memory, if only in part.
func sharesText(a string, b string) bool {
	if a == "" || b == "" {
		return false
	}
	from, to := uintptr(unsafe.Pointer(unsafe.StringData(a))), uintptr(unsafe.Pointer(unsafe.StringData(b)))
	return from < to+uintptr(len(b)) && to < from+uintptr(len(a))
}

// textsOf are all texts of pieces.
func textsOf(l ...impl.Piece) []string {
	var texts []string
	for _, p := range l {
		texts = append(texts, p.Src, p.Dst, p.Data)
	}
	return texts
}

func wantNewTexts(t *testing.T, what string, told []string, given []string) {
	t.Helper()
	for _, text := range told {
		if slices.ContainsFunc(given, func(other string) bool { return sharesText(text, other) }) {
			t.Errorf("%s: a text of %d bytes is shared", what, len(text))
		}
	}
}

// spoil overwrites a list to the end of its memory.
func spoil[T any](l []T) {
	clear(l[:cap(l)])
}

func TestPiecesAreNewMemory(t *testing.T) {
	// Room behind the list shows whether something is laid there.
	roomy := func(l []impl.Piece) []impl.Piece {
		return append(make([]impl.Piece, 0, 50), l...)
	}
	for _, c := range []struct {
		what string
		l    []impl.Piece
		p    impl.Piece
	}{
		{"added", mixedPackets(), numberedPart(9, 1, 8, true, 0)},
		{"the first one", nil, numberedPart(9, 1, 8, true, 0)},
		{"brought together", mixedPackets(), numberedPart(9, 0, 8, false, 0)},
		{"the last one of a packet", append(mixedPackets(), numberedPart(4, 0, 8, true, 0)), numberedPart(4, 1, 8, false, 0)},
		{"over another", mixedPackets(), mixedPackets()[0]},
		{"over the last one", mixedPackets(), mixedPackets()[5]},
		{"full", fullPieces(), numberedPart(91, 1, 8, true, 0)},
		{"wrong", mixedPackets(), impl.Piece{}},
	} {
		l := roomy(c.l)
		behind := slices.Clone(l[:cap(l)])
		got, ticked := impl.PieceAdd(l, c.p, 60), impl.PieceTick(l, 35)
		impl.PiecesRight(l)
		wantParts(t, c.what+": what was handed in", l[:cap(l)], behind)
		given := textsOf(append(slices.Clone(l), c.p)...)
		wantNewTexts(t, c.what, append(textsOf(got.Pieces...), got.Data), given)
		wantNewTexts(t, c.what+", ticked", textsOf(ticked...), given)
		spoil(got.Pieces)
		wantParts(t, c.what+": what was handed in, the answer spoilt", l[:cap(l)], behind)
		wantParts(t, c.what+": the other answer", ticked, youngOf(c.l, 35))
		spoil(ticked)
		wantParts(t, c.what+": what was handed in, the ticked ones spoilt", l[:cap(l)], behind)
		wantAdded(t, c.what+": asked again", impl.PieceAdd(l, c.p, 60), addedTo(c.l, c.p, 60))
		again := impl.PieceAdd(l, c.p, 60)
		spoil(l)
		wantAdded(t, c.what+": the list spoilt", again, addedTo(c.l, c.p, 60))
	}
}

// part is a piece by chance of one of a few packets, and now and then a wrong one.
func (d *dice) part() impl.Piece {
	p := partAt(d.upTo(4), int(8*(1+d.upTo(2))), d.upTo(3) > 0)
	if !p.More {
		p.Off, p.Data = p.Off+d.upTo(1), d.text(1+d.upTo(16))
	}
	p.Data, p.Id, p.Since = d.text(int64(len(p.Data))), d.upTo(5), d.upTo(200)
	switch d.upTo(60) {
	case 0:
		p.Since = noTimes[d.upTo(int64(len(noTimes)-1))]
	case 1:
		p.Data = d.text(d.upTo(9))
	case 2:
		p.Off = []int64{-1, 8190, 8191, 8192}[d.upTo(3)]
	case 3:
		p.Dst = insideOf(16)
	case 4:
		p.Src, p.Dst = insideOf(16), outsideOf(16)
	}
	return p
}

// Pieces by chance, one behind the other, in times that go on: what is told is as the document's words reckon it.
func TestMadePieces(t *testing.T) {
	d := dice(8)
	met, done := map[int64]int{}, 0
	var l []impl.Piece
	now := int64(0)
	for step := range 20000 {
		if d.upTo(4) == 0 {
			now += d.upTo(3)
		}
		p := d.part()
		got := impl.PieceAdd(l, p, now)
		wantAdded(t, fmt.Sprintf("step %d", step), got, addedTo(l, p, now))
		wantAnswer(t, "right pieces stay right", impl.PiecesRight(got.Pieces), true)
		met[got.Code]++
		if got.Done {
			done++
		}
		if got.Code != impl.ErrForm {
			l = got.Pieces
		}
		ticked := impl.PieceTick(l, now)
		wantParts(t, fmt.Sprintf("step %d, ticked", step), ticked, youngOf(l, now))
		wantAnswer(t, "right pieces stay right when time goes on", impl.PiecesRight(ticked), true)
		if d.upTo(9) == 0 {
			l = ticked
		}
	}
	if met[impl.OK] < 1000 || met[impl.ErrForm] < 100 || met[impl.ErrFrag] < 1000 || done < 300 {
		t.Errorf("codes that were met: %v, done %d", met, done)
	}
}

// Lists by chance, right ones and wrong ones, and full ones among them.
func TestMadeLists(t *testing.T) {
	d := dice(9)
	met, right := map[int64]int{}, 0
	for step := range 4000 {
		what := fmt.Sprintf("step %d", step)
		l := fullPieces()[:d.upTo(40)]
		for len(l) < 40 && d.upTo(9) > 0 {
			l = append(l, partWith(d.part(), func(p *impl.Piece) { p.Off += d.upTo(40) }))
		}
		p := d.part()
		wantAnswer(t, what, impl.PiecesRight(l), piecesAreRight(l))
		if piecesAreRight(l) {
			right++
		}
		got := impl.PieceAdd(l, p, 60)
		wantAdded(t, what, got, addedTo(l, p, 60))
		wantAnswer(t, "right pieces stay right", impl.PiecesRight(got.Pieces), true)
		wantParts(t, what, impl.PieceTick(l, 40), youngOf(l, 40))
		met[got.Code]++
	}
	if right < 500 || right > 3500 || met[impl.OK] < 300 || met[impl.ErrFrag] < 20 || met[impl.ErrFull] < 20 {
		t.Errorf("%d lists were right, codes that were met: %v", right, met)
	}
}
