package tests

import (
	"fmt"
	"slices"
	"strings"
	"testing"

	"loop.example/g00314/impl"
)

// natCase is a packet that one of the calls takes beside the pool and the bib of home.
type natCase struct {
	way natWay
	q   impl.V4
}

// takenPackets are such ones of each proto, of sessions that there are and of new ones.
func takenPackets() []natCase {
	var l []natCase
	for _, proto := range bibProtos {
		l = append(l, natCase{goes, sent(flowFrom(proto, hostA, 1002, peerA, 53), syn)},
			natCase{goes, sent(flowFrom(proto, hostC, 1005, peerC, 80), syn)})
		if proto != impl.Icmp {
			l = append(l, natCase{comes, sent(flowFrom(proto, peerC, 53, lentOne, 1002), syn)},
				natCase{comes, sent(flowFrom(proto, peerA, 80, lentOne, 1002), syn)},
				natCase{backs, sent(flowFrom(proto, hostB, 1002, lentOne, 1002), syn)},
				natCase{backs, sent(flowFrom(proto, hostA, 1002, lentOne, 1002), syn)})
		}
	}
	return l
}

// untaken are packets that the calls would refuse with another code, if all else were right.
func untaken() []natCase {
	short := carrying(flowFrom(impl.Udp, hostA, 0, lentOne, 0), "short")
	strange := carrying(flowFrom(47, hostA, 0, lentOne, 0), filler(24))
	far := sent(flowFrom(impl.Udp, hostA, 1002, addressOf("198.51.100.1"), 53), 0)
	piece := packetWith(short, func(q *impl.V4) { q.Whole, q.Off = false, 3 })
	var l []natCase
	for _, way := range natWays {
		l = append(l, natCase{way, short}, natCase{way, strange}, natCase{way, piece})
	}
	return append(l, natCase{comes, far}, natCase{backs, far}, natCase{backs, sent(flowFrom(impl.Icmp, hostA, 7, lentOne, 0), 0)})
}

func TestPacketsThatAreTaken(t *testing.T) {
	for _, c := range takenPackets() {
		c.way.passes(t, flowText(flowTold(c.q.Src, c.q.Dst, c.q.Proto, c.q.Data).Flow), filtered(0), homeBib(), c.q, 100)
	}
	for _, c := range untaken() {
		got := c.way.call(filtered(0), homeBib(), c.q, 100)
		wantAnswer(t, c.way.what+": refused for another reason", got.Code != impl.OK && got.Code != impl.ErrForm, true)
		wantNat(t, c.way.what, got, c.way.reckoned(filtered(0), homeBib(), c.q, 100))
	}
}

// wrongPools are changes that make the pool of home wrong, in itself or beside the bib of home.
var wrongPools = map[string]func(p *impl.Pool){
	"no addresses":      func(p *impl.Pool) { p.Addrs = nil },
	"nine addresses":    func(p *impl.Pool) { p.Addrs = lentAddrs(9) },
	"two alike":         func(p *impl.Pool) { p.Addrs = append(p.Addrs, lentOne) },
	"one of 16 bytes":   func(p *impl.Pool) { p.Addrs = append(p.Addrs, hostSix) },
	"Low of 0":          func(p *impl.Pool) { p.Low = 0 },
	"Low above High":    func(p *impl.Pool) { p.Low, p.High = 1009, 1008 },
	"High of 65536":     func(p *impl.Pool) { p.High = 65536 },
	"Most of 0":         func(p *impl.Pool) { p.Most = 0 },
	"Most of 61":        func(p *impl.Pool) { p.Most = 61 },
	"Filter below 0":    func(p *impl.Pool) { p.Filter = -1 },
	"Filter of 3":       func(p *impl.Pool) { p.Filter = 3 },
	"a life of 0":       func(p *impl.Pool) { p.Lives.Open = 0 },
	"a life of 10001":   func(p *impl.Pool) { p.Lives.Udp = 10001 },
	"nothing":           func(p *impl.Pool) { *p = impl.Pool{} },
	"far too many":      func(p *impl.Pool) { p.Addrs = slices.Repeat([]string{lentOne}, impl.MaxList+1) },
	"a very long text":  func(p *impl.Pool) { p.Addrs[2] = strings.Repeat("a", impl.MaxBytes+1) },
	"Most of the binds": func(p *impl.Pool) { p.Most = 6 },
	"another Out":       func(p *impl.Pool) { p.Addrs = lentAddrs(1) },
	"other ports":       func(p *impl.Pool) { p.Low = 1003 },
}

// wrongBibs are changes that make the bib of home wrong.
var wrongBibs = map[string]func(b *impl.Bib){
	"no sessions":        func(b *impl.Bib) { b.Sessions = nil },
	"no binds":           func(b *impl.Bib) { b.Binds = nil },
	"a bind twice":       func(b *impl.Bib) { b.Binds = append(b.Binds, b.Binds[0]) },
	"a session twice":    func(b *impl.Bib) { b.Sessions = append(b.Sessions, b.Sessions[0]) },
	"two Outs of one In": func(b *impl.Bib) { b.Binds[1].Out = lentTwo },
	"a port lent twice":  func(b *impl.Bib) { b.Binds[2].OutPort = 1002 },
	"a strange proto":    func(b *impl.Bib) { b.Binds[3].Proto, b.Sessions[3].Proto = impl.Icmp6, impl.Icmp6 },
	"a state of UDP":     func(b *impl.Bib) { b.Sessions[0].State = impl.Opening },
	"no state":           func(b *impl.Bib) { b.Sessions[1].State = 0 },
	"a time below 0":     func(b *impl.Bib) { b.Sessions[6].Until = -1 },
	"a peer of 16 bytes": func(b *impl.Bib) { b.Sessions[6].Peer = hostSix },
	"very many sessions": func(b *impl.Bib) { b.Sessions = slices.Repeat(b.Sessions, 100) },
}

// Pools and bibs that are not right are refused ahead of all else.
func TestNatOfWrongPoolsAndBibs(t *testing.T) {
	for _, c := range append(takenPackets(), untaken()...) {
		for what, change := range wrongPools {
			c.way.refuses(t, "a pool: "+what, poolWith(filtered(0), change), homeBib(), c.q, 100, impl.ErrForm)
		}
		for what, change := range wrongBibs {
			c.way.refuses(t, "a bib: "+what, filtered(0), bibWith(homeBib(), change), c.q, 100, impl.ErrForm)
		}
	}
}

// Packets that are not right are refused ahead of all else.
func TestNatOfWrongPackets(t *testing.T) {
	wrong := map[string]func(q *impl.V4){
		"nothing":               func(q *impl.V4) { *q = impl.V4{} },
		"Tos":                   func(q *impl.V4) { q.Tos = 256 },
		"Ttl":                   func(q *impl.V4) { q.Ttl = -1 },
		"Id":                    func(q *impl.V4) { q.Id = 65536 },
		"Proto":                 func(q *impl.V4) { q.Proto += 256 },
		"Proto below 0":         func(q *impl.V4) { q.Proto -= 256 },
		"an Off below 0":        func(q *impl.V4) { q.Whole, q.Off = false, -1 },
		"an Off too far":        func(q *impl.V4) { q.Whole, q.Off = false, 8192 },
		"Src of 16 bytes":       func(q *impl.V4) { q.Src = hostSix },
		"Dst of 16 bytes":       func(q *impl.V4) { q.Dst = hostSix },
		"both of 16 bytes":      func(q *impl.V4) { q.Src, q.Dst = hostSix, hostSix },
		"no Src":                func(q *impl.V4) { q.Src = "" },
		"no Dst":                func(q *impl.V4) { q.Dst = "" },
		"a long Src":            func(q *impl.V4) { q.Src = strings.Repeat("a", impl.MaxBytes+1) },
		"Options of 3 bytes":    func(q *impl.V4) { q.Options = "\x01\x01\x00" },
		"Options of 44 bytes":   func(q *impl.V4) { q.Options = filler(44) },
		"too much Data":         func(q *impl.V4) { q.Data += filler(impl.MaxData) },
		"far too much Data":     func(q *impl.V4) { q.Data += filler(impl.MaxBytes) },
		"Whole with More":       func(q *impl.V4) { q.Whole, q.More, q.Data = true, true, filler(24) },
		"Whole with an Off":     func(q *impl.V4) { q.Whole, q.Off = true, 1 },
		"More, of no multiple":  func(q *impl.V4) { q.Whole, q.More, q.Data = false, true, filler(25) },
		"Off, behind the end":   func(q *impl.V4) { q.Whole, q.Off, q.Data = false, 8189, filler(8) },
		"one byte too much":     func(q *impl.V4) { q.Data = filler(impl.MaxData + 1) },
		"a Proto of 58 and 256": func(q *impl.V4) { q.Proto = 256 + 58 },
	}
	for _, c := range append(takenPackets(), untaken()...) {
		for what, change := range wrong {
			c.way.refuses(t, what, filtered(0), homeBib(), packetWith(c.q, change), 100, impl.ErrForm)
		}
	}
}

// Times at their limits and beyond them; a session is until now and its life together.
func TestNatAtTimes(t *testing.T) {
	for _, c := range takenPackets() {
		for _, now := range []int64{0, 1, 500, 999999999, 1000000000} {
			got := c.way.passes(t, fmt.Sprintf("at %d", now), filtered(0), homeBib(), c.q, now)
			lives := map[int64][]int64{impl.Udp: {11}, impl.Icmp: {22}, impl.Tcp: {33, 44}}[c.q.Proto]
			touched := slices.ContainsFunc(got.Bib.Sessions, func(s impl.Session) bool {
				return s.Proto == c.q.Proto && slices.Contains(lives, s.Until-now)
			})
			wantAnswer(t, fmt.Sprintf("%s: a session is until its life from %d", c.way.what, now), touched, true)
		}
	}
	for _, c := range append(takenPackets(), untaken()...) {
		for _, now := range noTimes {
			c.way.refuses(t, fmt.Sprintf("at %d", now), filtered(0), homeBib(), c.q, now, impl.ErrForm)
		}
	}
}

// Pieces have no ports that could be told, the first one neither.
func TestNatOfPieces(t *testing.T) {
	pieces := map[string]func(q *impl.V4){
		"More":                 func(q *impl.V4) { q.Whole, q.More, q.Data = false, true, q.Data[:len(q.Data)/8*8] },
		"More, without Data":   func(q *impl.V4) { q.Whole, q.More, q.Data = false, true, "" },
		"an Off of 1":          func(q *impl.V4) { q.Whole, q.Off = false, 1 },
		"an Off of 8000":       func(q *impl.V4) { q.Whole, q.Off = false, 8000 },
		"an Off, without Data": func(q *impl.V4) { q.Whole, q.Off, q.Data = false, 1, "" },
		"both":                 func(q *impl.V4) { q.Whole, q.More, q.Off, q.Data = false, true, 5, q.Data[:len(q.Data)/8*8] },
	}
	for _, c := range append(takenPackets(), untaken()...) {
		for what, change := range pieces {
			c.way.refuses(t, what, filtered(0), homeBib(), packetWith(c.q, change), 100, impl.ErrFrag)
		}
	}
	for _, c := range takenPackets() {
		c.way.passes(t, "neither, and not Whole", filtered(0), homeBib(), packetWith(c.q, func(q *impl.V4) { q.Whole = false }), 100)
	}
}

func TestNatOfProtos(t *testing.T) {
	p, b := filtered(0), homeBib()
	for proto := range int64(256) {
		if slices.Contains(bibProtos, proto) {
			continue
		}
		for _, data := range []string{"", "short", filler(8), layCarried(flowFrom(impl.Udp, "", 1002, "", 1002), false, filler(30))} {
			what := fmt.Sprintf("proto %d, %d bytes", proto, len(data))
			goes.refuses(t, what, p, b, carrying(flowFrom(proto, hostA, 0, peerA, 0), data), 100, impl.ErrKind)
			comes.refuses(t, what, p, b, carrying(flowFrom(proto, peerA, 0, lentOne, 0), data), 100, impl.ErrKind)
			backs.refuses(t, what, p, b, carrying(flowFrom(proto, hostA, 0, lentOne, 0), data), 100, impl.ErrKind)
		}
	}
}

// Of ICMP what asks and what answers alone has an end.
func TestNatOfIcmpKinds(t *testing.T) {
	p := filtered(0)
	b := bibOf(impl.Bind{Proto: impl.Icmp, In: hostA, InPort: 9, Out: lentOne, OutPort: 1002})
	out, in := flowFrom(impl.Icmp, hostA, 9, peerA, 0), flowFrom(impl.Icmp, peerA, 1002, lentOne, 0)
	for first := range 256 {
		for _, second := range []byte{0, 1, 8, 255} {
			what := fmt.Sprintf("kind %d, code %d", first, second)
			set := func(q *impl.V4) { q.Data = string([]byte{byte(first), second}) + q.Data[2:] }
			went, came := packetWith(sent(out, 0), set), packetWith(sent(in, 0), set)
			if (first == 0 || first == 8) && second == 0 {
				goes.passes(t, what, p, b, went, 100)
				comes.passes(t, what, p, b, came, 100)
				continue
			}
			goes.refuses(t, what, p, b, went, 100, impl.ErrKind)
			comes.refuses(t, what, p, b, came, 100, impl.ErrKind)
		}
	}
}

// Data that end ahead of their header's end have no ports, whatever stands in them.
func TestNatOfShortData(t *testing.T) {
	p, b := filtered(0), homeBib()
	for _, c := range takenPackets() {
		header := map[int64]int{impl.Tcp: 20, impl.Udp: 8, impl.Icmp: 8}[c.q.Proto]
		for length := range header {
			cut := packetWith(c.q, func(q *impl.V4) { q.Data = q.Data[:length] })
			c.way.refuses(t, fmt.Sprintf("%d bytes", length), p, b, cut, 100, impl.ErrShort)
		}
		c.way.passes(t, "the header alone", p, b, packetWith(c.q, func(q *impl.V4) { q.Data = q.Data[:header] }), 100)
		if c.q.Proto != impl.Tcp {
			continue
		}
		for fours := range 16 {
			what := fmt.Sprintf("a header of %d fours", fours)
			q := packetWith(c.q, func(q *impl.V4) { q.Data = q.Data[:12] + string([]byte{byte(fours << 4)}) + q.Data[13:] })
			if fours < 5 || 4*fours > len(q.Data) {
				c.way.refuses(t, what, p, b, q, 100, impl.ErrShort)
			} else {
				c.way.passes(t, what, p, b, q, 100)
			}
		}
	}
}

// Of all flags those that begin something make a session; with a session that there is all go on.
func TestNatOfFlags(t *testing.T) {
	p, b := filtered(0), homeBib()
	for flags := range int64(256) {
		what := fmt.Sprintf("flags %d", flags)
		fresh, stranger := sent(flowFrom(impl.Tcp, hostC, 1005, peerA, 80), flags), sent(flowFrom(impl.Tcp, peerC, 80, lentOne, 1002), flags)
		if flags&(syn|rst|ack) == syn {
			went, came := goes.passes(t, what, p, b, fresh, 100), comes.passes(t, what, p, b, stranger, 100)
			wantNumber(t, what+": out", went.Bib.Sessions[7].State, impl.Opening)
			wantNumber(t, what+": in", came.Bib.Sessions[7].State, impl.Answered)
		} else {
			goes.refuses(t, what, p, b, fresh, 100, impl.ErrNone)
			comes.refuses(t, what, p, b, stranger, 100, impl.ErrNone)
		}
		went := goes.passes(t, what, p, b, sent(flowFrom(impl.Tcp, hostA, 1002, peerA, 80), flags), 100)
		wantNumber(t, what+": on from inside", went.Bib.Sessions[1].State, nextState(1, true, flags))
		came := comes.passes(t, what, p, b, sent(flowFrom(impl.Tcp, peerA, 80, lentOne, 1002), flags), 100)
		wantNumber(t, what+": on from outside", came.Bib.Sessions[1].State, nextState(1, false, flags))
	}
}

// What stands at the place of the flags counts for TCP alone.
func TestNatOfOtherFlags(t *testing.T) {
	for _, proto := range []int64{impl.Udp, impl.Icmp} {
		for flags := range int64(256) {
			q := sent(flowFrom(proto, hostC, 1005, peerA, 80), 0)
			q.Data = flagged(q.Data, flags)
			went := goes.passes(t, "a byte at 13", filtered(0), homeBib(), q, 100)
			wantNumber(t, "its state", went.Bib.Sessions[7].State, impl.Open)
		}
	}
}

// With as many sessions as Most there is no new one, and those that there are go on.
func TestNatAtMost(t *testing.T) {
	b := homeBib()
	for most := int64(7); most <= 9; most++ {
		p := poolWith(filtered(0), func(p *impl.Pool) { p.Most = most })
		goes.passes(t, "one that there is", p, b, sent(flowFrom(impl.Udp, hostA, 1002, peerA, 53), 0), 100)
		comes.passes(t, "one that there is", p, b, sent(flowFrom(impl.Udp, peerA, 53, lentOne, 1002), 0), 100)
		begun := []natCase{
			{goes, sent(flowFrom(impl.Udp, hostA, 1002, peerC, 53), 0)},
			{goes, sent(flowFrom(impl.Udp, hostC, 1005, peerA, 53), 0)},
			{goes, sent(flowFrom(impl.Tcp, hostC, 1005, peerA, 53), syn)},
			{goes, sent(flowFrom(impl.Icmp, hostC, 1005, peerA, 0), 0)},
			{comes, sent(flowFrom(impl.Udp, peerC, 53, lentOne, 1002), 0)},
			{comes, sent(flowFrom(impl.Tcp, peerC, 53, lentOne, 1002), syn)},
		}
		for _, c := range begun {
			if most > 7 {
				c.way.passes(t, fmt.Sprintf("a new one, Most %d", most), p, b, c.q, 100)
			} else {
				c.way.refuses(t, "a new one, Most 7", p, b, c.q, 100, impl.ErrFull)
			}
		}
		// There and back is two sessions: what the first one made is not told, if there is no second.
		both := sent(flowFrom(impl.Udp, hostB, 1002, lentOne, 1002), 0)
		if most > 8 {
			backs.passes(t, "two new ones, Most 9", p, b, both, 100)
		} else {
			backs.refuses(t, fmt.Sprintf("two new ones, Most %d", most), p, b, both, 100, impl.ErrFull)
		}
	}
}

// With the last port lent, ends that have one go on, and no other does.
func TestNatWithoutPorts(t *testing.T) {
	p := impl.Pool{Addrs: []string{lentOne}, Low: 7, High: 9, Most: 60, Lives: someLives()}
	for _, proto := range bibProtos {
		b := impl.Bib{}
		var lent []int64
		for i, host := range []string{hostA, hostB, hostC} {
			went := goes.passes(t, fmt.Sprintf("host %d", i), p, b, sent(flowFrom(proto, host, 8, peerA, 53), syn), 100)
			bind := went.Bib.Binds[i]
			wantCarried(t, fmt.Sprintf("host %d", i), went.Four, flowFrom(proto, lentOne, bind.OutPort, peerA, 53), true)
			lent = append(lent, bind.OutPort)
			b = went.Bib
		}
		wantAnswer(t, fmt.Sprintf("the ports lent are %v", lent), slices.Equal(lent, []int64{8, 7, 9}), true)
		last := addressOf("10.0.0.4")
		goes.refuses(t, "a fourth one", p, b, sent(flowFrom(proto, last, 8, peerA, 53), syn), 100, impl.ErrFull)
		goes.refuses(t, "another end of the first", p, b, sent(flowFrom(proto, hostA, 9, peerA, 53), syn), 100, impl.ErrFull)
		goes.passes(t, "the first end, another peer", p, b, sent(flowFrom(proto, hostA, 8, peerB, 53), syn), 100)
		for i, host := range []string{hostA, hostB, hostC} {
			q := answerTo(sent(flowFrom(proto, lentOne, lent[i], peerA, 53), 0), syn|ack)
			wantText(t, "the host", comes.passes(t, "an answer", p, b, q, 100).Four.Dst, host)
		}
		if proto != impl.Icmp {
			backs.refuses(t, "a fourth one", p, b, sent(flowFrom(proto, last, 8, lentOne, 7), syn), 100, impl.ErrFull)
			backs.passes(t, "the first to the second", p, b, sent(flowFrom(proto, hostA, 8, lentOne, 7), syn), 100)
		}
	}
}

// What comes to an address that is none of the pool's, or to a port that is nobody's, comes to nobody.
func TestNatToNobody(t *testing.T) {
	b := homeBib()
	for filter := range int64(3) {
		p := filtered(filter)
		for _, proto := range bibProtos {
			for _, dst := range []string{hostA, peerA, addressOf("203.0.113.0"), addressOf("203.0.113.4"), "\x00\x00\x00\x00", "\xff\xff\xff\xff"} {
				q := sent(flowFrom(proto, peerA, 53, dst, 1002), syn)
				comes.refuses(t, "none of the pool's", p, b, q, 100, impl.ErrNone)
				comes.refuses(t, "none of the pool's, short", p, b, packetWith(q, func(q *impl.V4) { q.Data = "" }), 100, impl.ErrNone)
			}
			comes.refuses(t, "a port of the pool, nobody's", p, b, sent(flowFrom(proto, peerA, 1008, lentOne, 1008), syn), 100, impl.ErrNone)
			comes.refuses(t, "another one's port", p, b, sent(flowFrom(proto, peerA, 1002, lentLast, 1002), syn), 100, impl.ErrNone)
			comes.refuses(t, "no port of the pool", p, b, sent(flowFrom(proto, peerA, 999, lentOne, 999), syn), 100, impl.ErrNone)
			comes.refuses(t, "port 0", p, b, sent(flowFrom(proto, peerA, 0, lentOne, 0), syn), 100, impl.ErrNone)
			comes.refuses(t, "an empty bib", p, impl.Bib{}, sent(flowFrom(proto, peerA, 1002, lentOne, 1002), syn), 100, impl.ErrNone)
		}
		comes.refuses(t, "of another proto", p, b, sent(flowFrom(impl.Tcp, peerA, 53, lentOne, 1004), syn), 100, impl.ErrNone)
		comes.refuses(t, "the end inside", p, b, sent(flowFrom(impl.Udp, peerA, 53, hostA, 1002), syn), 100, impl.ErrNone)
	}
}

// A host of 16 bytes is not reached by this way; other faults are told ahead of it.
func TestNatToHostOfSix(t *testing.T) {
	b := homeBib()
	known, unknown := sent(flowFrom(impl.Udp, peerB, 53, lentTwo, 1002), 0), sent(flowFrom(impl.Udp, peerC, 53, lentTwo, 1002), 0)
	echo := sent(flowFrom(impl.Icmp, peerB, 1001, lentTwo, 0), 0)
	for filter := range int64(3) {
		comes.refuses(t, "a known peer", filtered(filter), b, known, 100, impl.ErrKind)
		comes.refuses(t, "a known peer of ICMP", filtered(filter), b, echo, 100, impl.ErrKind)
	}
	comes.refuses(t, "an unknown peer, Filter 0", filtered(0), b, unknown, 100, impl.ErrKind)
	comes.refuses(t, "an unknown peer, Filter 1", filtered(1), b, unknown, 100, impl.ErrNone)
	comes.refuses(t, "an unknown peer, Filter 2", filtered(2), b, unknown, 100, impl.ErrNone)
	full := poolWith(filtered(0), func(p *impl.Pool) { p.Most = 7 })
	comes.refuses(t, "an unknown peer, Most reached", full, b, unknown, 100, impl.ErrFull)
	comes.refuses(t, "a known peer, Most reached", full, b, known, 100, impl.ErrKind)
	hairpin := sent(flowFrom(impl.Udp, hostA, 1002, lentTwo, 1002), 0)
	backs.refuses(t, "from inside, Filter 0", filtered(0), b, hairpin, 100, impl.ErrKind)
	backs.refuses(t, "from inside, Filter 1", filtered(1), b, hairpin, 100, impl.ErrNone)
	tcp := impl.Bind{Proto: impl.Tcp, In: hostSix, InPort: 5, Out: lentTwo, OutPort: 1005}
	six := bibWith(bibOf(tcp), func(b *impl.Bib) { b.Sessions[0].State = impl.Open })
	comes.refuses(t, "TCP that begins", filtered(0), six, sent(flowFrom(impl.Tcp, peerC, 1, lentTwo, 1005), syn), 100, impl.ErrKind)
	comes.refuses(t, "TCP that begins nothing", filtered(0), six, sent(flowFrom(impl.Tcp, peerC, 1, lentTwo, 1005), ack), 100, impl.ErrNone)
	comes.refuses(t, "TCP of a session", filtered(0), six, sent(flowFrom(impl.Tcp, peerA, 53, lentTwo, 1005), ack), 100, impl.ErrKind)
}

// Of two faults the one that the document names first is told.
func TestNatFaultsMeet(t *testing.T) {
	p, b := filtered(0), homeBib()
	full := poolWith(p, func(p *impl.Pool) { p.Most = 7 })
	piece := func(q *impl.V4) { q.Whole, q.Off = false, 2 }
	short := func(q *impl.V4) { q.Data = q.Data[:5] }
	strange := func(q *impl.V4) { q.Proto = 47 }
	far := func(q *impl.V4) { q.Dst = peerC }
	nobody := func(q *impl.V4) { q.Dst = lentLast }
	out, in := sent(flowFrom(impl.Tcp, hostA, 1003, peerC, 80), ack), sent(flowFrom(impl.Tcp, peerC, 80, lentOne, 1002), ack)
	pin, echo := sent(flowFrom(impl.Tcp, hostA, 1003, lentOne, 1002), ack), sent(flowFrom(impl.Icmp, hostA, 9, lentOne, 0), 0)
	begun := packetWith(sent(flowFrom(impl.Udp, hostA, 1003, lentOne, 1002), 0), far)
	for _, c := range []struct {
		what    string
		way     natWay
		p       impl.Pool
		q       impl.V4
		changes []func(q *impl.V4)
		code    int64
	}{
		{"a piece, strange and short", goes, full, out, []func(q *impl.V4){piece, strange, short}, impl.ErrFrag},
		{"strange and short", goes, full, out, []func(q *impl.V4){strange, short}, impl.ErrKind},
		{"short, begins nothing, full", goes, full, out, []func(q *impl.V4){short}, impl.ErrShort},
		{"begins nothing, full", goes, full, out, nil, impl.ErrNone},
		{"a piece to elsewhere", comes, full, in, []func(q *impl.V4){piece, far}, impl.ErrFrag},
		{"to elsewhere, strange and short", comes, full, in, []func(q *impl.V4){far, strange, short}, impl.ErrNone},
		{"strange and short", comes, full, in, []func(q *impl.V4){strange, short}, impl.ErrKind},
		{"short, to nobody", comes, full, in, []func(q *impl.V4){short, nobody}, impl.ErrShort},
		{"strange, to nobody", comes, full, in, []func(q *impl.V4){strange, nobody}, impl.ErrKind},
		{"begins nothing, full", comes, full, in, nil, impl.ErrNone},
		{"a piece of ICMP", backs, full, echo, []func(q *impl.V4){piece}, impl.ErrFrag},
		{"short of ICMP", backs, full, echo, []func(q *impl.V4){short}, impl.ErrKind},
		{"ICMP to elsewhere", backs, full, echo, []func(q *impl.V4){far}, impl.ErrKind},
		{"ICMP, full", backs, full, echo, nil, impl.ErrKind},
		{"a piece to elsewhere", backs, full, pin, []func(q *impl.V4){piece, far}, impl.ErrFrag},
		{"strange, to elsewhere", backs, full, pin, []func(q *impl.V4){strange, far}, impl.ErrKind},
		{"short, to elsewhere", backs, full, pin, []func(q *impl.V4){short, far}, impl.ErrShort},
		{"begins nothing, full", backs, full, pin, nil, impl.ErrNone},
		{"full, to elsewhere", backs, full, begun, nil, impl.ErrFull},
		{"to elsewhere", backs, p, begun, nil, impl.ErrNone},
	} {
		q := c.q
		for _, change := range c.changes {
			q = packetWith(q, change)
		}
		c.way.refuses(t, c.what, c.p, b, q, 100, c.code)
		c.way.refuses(t, c.what+", at no time", c.p, b, q, -1, impl.ErrForm)
		c.way.refuses(t, c.what+", a wrong header", c.p, b, packetWith(q, func(q *impl.V4) { q.Ttl = 256 }), 100, impl.ErrForm)
	}
}
