package tests

import (
	"fmt"
	"math"
	"slices"
	"strings"
	"testing"

	"loop.example/g00314/impl"
)

// toCut is a right packet that may be cut, with so many bytes of Options and Data.
func toCut(options int, data int) impl.V4 {
	return fourWith(func(p *impl.V4) { p.Options, p.Data = filler(options), filler(data) })
}

// inMidst is the packet as one that is a piece itself, and not the last one.
func inMidst(p impl.V4) impl.V4 {
	p.More, p.Off = true, 185
	return p
}

// packetsToCut have Options and none, are pieces and none, and of all lengths of Data about the eights.
func packetsToCut() []impl.V4 {
	var l []impl.V4
	for _, options := range []int{0, 4, 12, 40} {
		for _, data := range []int{0, 1, 7, 8, 9, 47, 48, 49, 50, 52, 55, 56, 57, 95, 96, 97, 100, 1383, 1384, 1391, 1392, 1393, 1400} {
			p := toCut(options, data)
			l = append(l, p, fourWith(func(q *impl.V4) { *q, q.Off = p, 185 }))
			if data%8 == 0 {
				l = append(l, inMidst(p), fourWith(func(q *impl.V4) { *q, q.More = p, true }))
			}
		}
	}
	return l
}

// cutOf cuts as the document's words say: a piece takes eight bytes, and eight more, as long as they fit.
func cutOf(p impl.V4, most int64) []impl.V4 {
	if !fourIsRight(p) || p.Whole || !among(most, 68, 1500) {
		return nil
	}
	if int64(len(layFour(p))) <= most {
		return []impl.V4{p}
	}
	var l []impl.V4
	for at := 0; at < len(p.Data); {
		q := p
		q.Off, q.Data = p.Off+int64(at/8), ""
		if at > 0 {
			q.Options = ""
		}
		for at < len(p.Data) && int64(20+len(q.Options)+len(q.Data)+8) <= most {
			eight := p.Data[at:min(at+8, len(p.Data))]
			q.Data += eight
			at += len(eight)
		}
		q.More = p.More || at < len(p.Data)
		l = append(l, q)
	}
	return l
}

// foursText tells packets for what is told of a fault.
func foursText(l []impl.V4) string {
	var b strings.Builder
	for _, p := range l {
		fmt.Fprintf(&b, " (%d+%d with %d, %v)", p.Off, len(p.Data), len(p.Options), p.More)
	}
	return fmt.Sprintf("%d packets%s", len(l), b.String())
}

func wantFours(t *testing.T, what string, got []impl.V4, want []impl.V4) {
	t.Helper()
	if !slices.Equal(got, want) {
		t.Errorf("%s: got %s, want %s", what, foursText(got), foursText(want))
	}
}

// wantCut holds the pieces against the reckoned ones, and asks what each of them has to be.
func wantCut(t *testing.T, p impl.V4, most int64) {
	t.Helper()
	what := fmt.Sprintf("%s at %d", foursText([]impl.V4{p}), most)
	got := impl.Cut(p, most)
	wantFours(t, what, got, cutOf(p, most))
	data := ""
	for i, q := range got {
		if !impl.V4Right(q) || int64(len(impl.V4Bytes(q))) > most {
			t.Errorf("%s: the piece of the number %d has %d bytes, right is %v", what, i, len(impl.V4Bytes(q)), impl.V4Right(q))
		}
		wantNumber(t, what+": Off", q.Off, p.Off+int64(len(data)/8))
		wantAnswer(t, what+": More", q.More, p.More || i < len(got)-1)
		data += q.Data
	}
	if got != nil && data != p.Data {
		t.Errorf("%s: the data are %d bytes", what, len(data))
	}
}

func TestCutByHand(t *testing.T) {
	piece := func(p impl.V4, options string, off int64, more bool, data string) impl.V4 {
		p.Options, p.Off, p.More, p.Data = options, off, more, data
		return p
	}
	d := filler(1400)
	short, midst := toCut(0, 100), inMidst(toCut(40, 56))
	for _, c := range []struct {
		what string
		p    impl.V4
		most int64
		want []impl.V4
	}{
		{"three", short, 68, []impl.V4{piece(short, "", 0, true, d[:48]), piece(short, "", 6, true, d[48:96]), piece(short, "", 12, false, d[96:100])}},
		{"three, with room for seven more", short, 75, []impl.V4{piece(short, "", 0, true, d[:48]), piece(short, "", 6, true, d[48:96]), piece(short, "", 12, false, d[96:100])}},
		{"two", short, 76, []impl.V4{piece(short, "", 0, true, d[:56]), piece(short, "", 7, false, d[56:100])}},
		{"one", short, 120, []impl.V4{short}},
		{"one byte less", short, 119, []impl.V4{piece(short, "", 0, true, d[:96]), piece(short, "", 12, false, d[96:100])}},
		{"in the midst, with Options", midst, 68, []impl.V4{piece(midst, midst.Options, 185, true, d[:8]), piece(midst, "", 186, true, d[8:56])}},
		{"in the midst, one byte less", midst, 115, []impl.V4{piece(midst, midst.Options, 185, true, d[:48]), piece(midst, "", 191, true, d[48:56])}},
		{"in the midst, alone", midst, 116, []impl.V4{midst}},
		{"a last one that is not eights, with room for it alone", toCut(0, 98), 71,
			[]impl.V4{piece(short, "", 0, true, d[:48]), piece(short, "", 6, true, d[48:96]), piece(short, "", 12, false, d[96:98])}},
		{"no Data", toCut(40, 0), 68, []impl.V4{toCut(40, 0)}},
		{"all", toCut(40, 1400), 1459, []impl.V4{piece(short, filler(40), 0, true, d[:1392]), piece(short, "", 174, false, d[1392:])}},
	} {
		wantFours(t, c.what, impl.Cut(c.p, c.most), c.want)
		wantFours(t, c.what+" (as reckoned)", cutOf(c.p, c.most), c.want)
	}
}

func TestCutAtEdges(t *testing.T) {
	for _, p := range packetsToCut() {
		length := int64(len(layFour(p)))
		for _, most := range []int64{67, 68, 69, 71, 72, 75, 76, 77, 100, 576, 1280, 1499, 1500, 1501, length - 9, length - 8, length - 1, length, length + 1} {
			wantCut(t, p, most)
		}
		if length >= 68 {
			wantFours(t, "one that just takes it", impl.Cut(p, length), []impl.V4{p})
		}
		if length >= 69 {
			wantNumber(t, "pieces at one byte less", int64(len(impl.Cut(p, length-1))), 2)
		}
		for _, most := range []int64{67, 1501, 0, 1, -1, -68, -1500, 65535, 1<<32 + 68, math.MinInt64, math.MaxInt64} {
			wantFours(t, fmt.Sprintf("cut at %d", most), impl.Cut(p, most), nil)
		}
	}
	for most := int64(60); most <= 1510; most++ {
		wantCut(t, toCut(0, 1400), most)
		wantCut(t, inMidst(toCut(36, 1392)), most)
	}
	far := fourWith(func(p *impl.V4) { p.Off, p.Data = 8014, filler(1400) })
	for most := int64(68); most <= 200; most++ {
		wantCut(t, far, most)
	}
	wantCut(t, fourWith(func(p *impl.V4) { p.Off, p.Data = 8015, filler(1400) }), 68)
}

func TestCutOfWholeOnes(t *testing.T) {
	for _, p := range packetsToCut() {
		p.Whole = true
		for _, most := range []int64{68, 100, 1280, 1500, int64(len(layFour(p)))} {
			wantFours(t, "a Whole packet", impl.Cut(p, most), nil)
		}
	}
}

func TestCutOfWrongPackets(t *testing.T) {
	for what, change := range map[string]func(p *impl.V4){
		"Tos":              func(p *impl.V4) { p.Tos = 256 },
		"Id":               func(p *impl.V4) { p.Id = 65536 },
		"Off below":        func(p *impl.V4) { p.Off = -1 },
		"Off above":        func(p *impl.V4) { p.Off = 8192 },
		"Ttl":              func(p *impl.V4) { p.Ttl = -1 },
		"Proto":            func(p *impl.V4) { p.Proto = 256 },
		"Src":              func(p *impl.V4) { p.Src = insideOf(16) },
		"Dst":              func(p *impl.V4) { p.Dst = "" },
		"Options of 3":     func(p *impl.V4) { p.Options = "abc" },
		"Options of 44":    func(p *impl.V4) { p.Options = filler(44) },
		"too much Data":    func(p *impl.V4) { p.Data = filler(1401) },
		"far too much":     func(p *impl.V4) { p.Data = filler(impl.MaxBytes + 1) },
		"More of no eight": func(p *impl.V4) { p.More, p.Data = true, filler(101) },
		"the end":          func(p *impl.V4) { p.Off, p.Data = 8180, filler(100) },
	} {
		p := toCut(4, 200)
		change(&p)
		for _, most := range []int64{68, 100, 1500} {
			wantFours(t, what, impl.Cut(p, most), nil)
		}
	}
	wantFours(t, "the zero packet", impl.Cut(impl.V4{}, 68), nil)
}

// asPart is the packet as a piece of what it was cut from.
func asPart(p impl.V4) impl.Piece {
	return impl.Piece{Src: p.Src, Dst: p.Dst, Proto: p.Proto, Id: p.Id, Off: p.Off, More: p.More, Data: p.Data}
}

// packetOf is what tells the packet of a piece.
func packetOf(p impl.Piece) impl.Piece {
	return impl.Piece{Src: p.Src, Dst: p.Dst, Proto: p.Proto, Id: p.Id}
}

// split are the data as pieces of p's packet that begin at these places, and at 0.
func split(p impl.Piece, data string, places ...int) []impl.Piece {
	var l []impl.Piece
	from := 0
	for _, to := range append(places, len(data)) {
		l = append(l, partWith(p, func(p *impl.Piece) { p.Off, p.More, p.Data = int64(from/8), to < len(data), data[from:to] }))
		from = to
	}
	return l
}

// wantTogether adds piece by piece, as time goes on: those of a packet of wholes are brought together at
// its last one and not before, all others are left.
func wantTogether(t *testing.T, what string, row []impl.Piece, wholes map[impl.Piece]string) {
	t.Helper()
	toCome, begun := map[impl.Piece]int{}, map[impl.Piece]int64{}
	for _, p := range row {
		toCome[packetOf(p)]++
	}
	var l, left []impl.Piece
	for i, p := range row {
		packet, now := packetOf(p), int64(1000+i)
		if _, there := begun[packet]; !there {
			begun[packet] = now
		}
		toCome[packet]--
		data, whole := wholes[packet]
		got := impl.PieceAdd(l, p, now)
		p.Since = begun[packet]
		left = append(left, p)
		want := impl.PieceOut{}
		if whole && toCome[packet] == 0 {
			_, left = ofPacket(left, p)
			want.Done, want.Data = true, data
		}
		want.Pieces = left
		wantAdded(t, fmt.Sprintf("%s: the piece of the number %d of %d", what, i, len(row)), got, want)
		l = got.Pieces
	}
}

// orders are the pieces as they are, backwards, and mixed.
func (d *dice) orders(l []impl.Piece) [][]impl.Piece {
	back := slices.Clone(l)
	slices.Reverse(back)
	made := [][]impl.Piece{l, back}
	for range 3 {
		made = append(made, d.mixed(l))
	}
	return made
}

func (d *dice) mixed(l []impl.Piece) []impl.Piece {
	mixed := slices.Clone(l)
	for i := range mixed {
		j := i + int(d.upTo(int64(len(mixed)-i-1)))
		mixed[i], mixed[j] = mixed[j], mixed[i]
	}
	return mixed
}

// withStrangers mixes pieces of other packets among these, where the same bytes would lie.
func (d *dice) withStrangers(l []impl.Piece) []impl.Piece {
	row := slices.Clone(l)
	for _, far := range otherPackets(l[d.upTo(int64(len(l)-1))]) {
		far.More, far.Data = true, "stranger"
		row = slices.Insert(row, int(d.upTo(int64(len(row)))), far)
	}
	return row
}

// partsOf cuts a packet that may lie within another one, and puts all that it lacks about its pieces.
func partsOf(p impl.V4, most int64) (parts []impl.Piece, data string) {
	for _, q := range impl.Cut(p, most) {
		parts = append(parts, asPart(q))
	}
	data = p.Data
	if p.Off > 0 {
		lead := strings.Repeat("what goes ahead ", 93)[:8*p.Off]
		front := split(asPart(p), lead+"....", 1400, int(8*p.Off))
		parts, data = append(front[:2:2], parts...), lead+data
	}
	if p.More {
		end := asPart(p)
		end.Off, end.More, end.Data = int64(len(data)/8), false, "the end"
		parts, data = append(parts, end), data+end.Data
	}
	return parts, data
}

func TestCutPiecesComeTogether(t *testing.T) {
	d := dice(10)
	for _, p := range packetsToCut() {
		if p.Data == "" {
			continue
		}
		for _, most := range []int64{68, 77, 1280, 1500, int64(len(layFour(p))), int64(len(layFour(p))) - 1} {
			if most < 68 {
				continue
			}
			parts, data := partsOf(p, most)
			wholes := map[impl.Piece]string{packetOf(parts[0]): data}
			what := fmt.Sprintf("%s at %d", foursText([]impl.V4{p}), most)
			for _, row := range d.orders(parts) {
				wantTogether(t, what, row, wholes)
				if len(row) <= 33 {
					wantTogether(t, what+", with strangers", d.withStrangers(row), wholes)
				}
			}
		}
	}
}

func TestPiecesComeTogetherByHand(t *testing.T) {
	whole := "one to 8two to 8three to8end"
	p := partAt(0, 8, true)
	for _, places := range [][]int{{}, {8}, {16}, {24}, {8, 16}, {8, 24}, {16, 24}, {8, 16, 24}} {
		parts := split(p, whole, places...)
		d := dice(11)
		for _, row := range d.orders(parts) {
			wantTogether(t, fmt.Sprintf("pieces at %v", places), row, map[impl.Piece]string{packetOf(p): whole})
		}
		lacking := parts[:len(parts)-1]
		wantTogether(t, fmt.Sprintf("pieces at %v without the last one", places), lacking, nil)
		wantTogether(t, fmt.Sprintf("pieces at %v without the first one", places), parts[1:], nil)
	}
	parts := split(p, whole, 8, 16)
	wantTogether(t, "without the midst", []impl.Piece{parts[0], parts[2]}, nil)
	wantTogether(t, "without the midst, backwards", []impl.Piece{parts[2], parts[0]}, nil)
}

// Packets told apart by one field alone, each with all its pieces among those of the others.
func TestPacketsAmongOneAnother(t *testing.T) {
	d := dice(12)
	for range 60 {
		var row []impl.Piece
		wholes := map[impl.Piece]string{}
		for _, p := range append(otherPackets(partAt(0, 8, true)), partAt(0, 8, true)) {
			data := d.text(33 + d.upTo(30))
			row = append(row, split(p, data, 8, 16, 32)...)
			wholes[packetOf(p)] = data
		}
		for _, mixed := range d.orders(row) {
			wantTogether(t, "packets among one another", mixed, wholes)
		}
	}
}

// The most that 40 pieces can be brought together to, of both kinds of addresses.
func TestGreatPackets(t *testing.T) {
	d := dice(13)
	for _, size := range []int{4, 16} {
		p := partWith(partAt(0, 8, true), func(p *impl.Piece) { p.Src, p.Dst, p.Id = insideOf(size), outsideOf(size), 4294967295 })
		for _, length := range []int{40 * 1400, 39*1400 + 1, 39*1400 + 1399} {
			var places []int
			for at := 1400; at < length; at += 1400 {
				places = append(places, at)
			}
			data := d.text(int64(length))
			for _, row := range d.orders(split(p, data, places...)) {
				wantTogether(t, fmt.Sprintf("%d bytes", length), row, map[impl.Piece]string{packetOf(p): data})
			}
		}
	}
}

// Packets cut by chance: at places of which the program knows nothing, and once more by Cut.
func TestPacketsCutByChance(t *testing.T) {
	d := dice(14)
	for range 400 {
		p := d.four()
		p.Whole, p.More, p.Off, p.Data = false, false, 0, d.text(1+d.upTo(1399))
		var row []impl.Piece
		for _, q := range impl.Cut(p, 400+d.upTo(1100)) {
			for _, piece := range impl.Cut(q, 100+d.upTo(1400)) {
				row = append(row, asPart(piece))
			}
		}
		if len(row) > 40 {
			continue
		}
		wholes := map[impl.Piece]string{packetOf(row[0]): p.Data}
		wantTogether(t, foursText([]impl.V4{p}), d.mixed(row), wholes)
		wantCut(t, d.four(), 60+d.upTo(1450))
		wantCut(t, p, 68+d.upTo(100))
	}
}

func TestCutIsNewMemory(t *testing.T) {
	for _, p := range []impl.V4{toCut(40, 1400), toCut(0, 20), inMidst(toCut(4, 800)), toCut(8, 0)} {
		given := []string{p.Src, p.Dst, p.Options, p.Data}
		for _, most := range []int64{68, 500, 1500} {
			got := impl.Cut(p, most)
			for _, q := range got {
				wantNewTexts(t, "a packet that is cut", []string{q.Src, q.Dst, q.Options, q.Data}, given)
			}
			spoil(got)
			wantFours(t, "cut again", impl.Cut(p, most), cutOf(p, most))
		}
	}
}
