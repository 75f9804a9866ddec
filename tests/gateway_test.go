package tests

import (
	"fmt"
	"math"
	"slices"
	"strings"
	"testing"

	"loop.example/g00314/impl"
)

// homeRoutes have hops inside and outside of both kinds of addresses, at the edges between them too, some of them
// within others; to 9.0.0.0/8 and 3000::/4 there is none.
func homeRoutes() []impl.Route {
	return []impl.Route{
		route("10.0.0.0/8", 7), route("10.0.0.3/32", 8), route("192.0.2.0/24", 600), route("192.0.2.8/32", 601),
		route("172.16.0.0/16", 500), route("172.17.0.0/16", 501), route("172.18.0.0/16", 1), route("172.19.0.0/16", 1000),
		route("203.0.113.0/24", 650),
		route("2001:db8::/32", 9), route("2001:db8::5/128", 11), route("fd00::/8", 10), route("2400::/12", 800),
		route("fd16::/16", 500), route("fd17::/16", 501), route("fd18::/16", 1), route("fd19::/16", 1000),
	}
}

// homePieces are of packets that nothing else is of.
func homePieces() []impl.Piece {
	return []impl.Piece{numberedPart(77, 1, 8, true, 95), numberedPart(78, 2, 11, false, 100),
		partWith(numberedPart(79, 0, 16, true, 90), func(p *impl.Piece) { p.Src, p.Dst = hostSix, otherSix })}
}

func homeGate() impl.Gateway {
	return impl.Gateway{Routes: homeRoutes(), Pool: homePool(), Six: homeSix, Four1: gateFour, Six1: gateSix, Mtu: 1280,
		Bib: homeBib(), Pieces: homePieces(), Bucket: someBucket(), Now: 100}
}

func gateClone(g impl.Gateway) impl.Gateway {
	g.Routes, g.Pool.Addrs, g.Pieces = slices.Clone(g.Routes), slices.Clone(g.Pool.Addrs), slices.Clone(g.Pieces)
	g.Bib = bibClone(g.Bib)
	return g
}

func gateWith(g impl.Gateway, changes ...func(g *impl.Gateway)) impl.Gateway {
	g = gateClone(g)
	for _, change := range changes {
		change(&g)
	}
	return g
}

func routesAreRight(l []impl.Route) bool {
	met := map[impl.Prefix]bool{}
	for _, r := range l {
		a, bits := r.Prefix.Addr, r.Prefix.Bits
		switch {
		case len(a) != 4 && len(a) != 16, !among(bits, 0, int64(8*len(a))), !among(r.Hop, 1, 1000), met[r.Prefix]:
			return false
		case strings.Contains(signs(a)[bits:], "1"):
			return false
		}
		met[r.Prefix] = true
	}
	return len(l) <= 100
}

// gateIsRight asks the document's words one by one.
func gateIsRight(g impl.Gateway) bool {
	_, takes := placesIn(g.Six)
	switch {
	case !routesAreRight(g.Routes), !poolIsRight(g.Pool), !takes:
		return false
	case len(g.Four1) != 4, len(g.Six1) != 16, !among(g.Mtu, 1280, 1500):
		return false
	case !bibIsRight(g.Pool, g.Bib), !piecesAreRight(g.Pieces), !bucketIsRight(g.Bucket):
		return false
	}
	return among(g.Now, 0, 1000000000) && g.Bucket.Since <= g.Now
}

// gateText tells an empty list and none alike.
func gateText(g impl.Gateway) string {
	return fmt.Sprintf("%+v", g)
}

// sameGate holds an empty list and none for the same.
func sameGate(a impl.Gateway, b impl.Gateway) bool {
	p, q := a.Pool, b.Pool
	return slices.Equal(a.Routes, b.Routes) && slices.Equal(p.Addrs, q.Addrs) &&
		p.Low == q.Low && p.High == q.High && p.Most == q.Most && p.Filter == q.Filter && p.Lives == q.Lives &&
		a.Six == b.Six && a.Four1 == b.Four1 && a.Six1 == b.Six1 && a.Mtu == b.Mtu &&
		slices.Equal(a.Bib.Binds, b.Bib.Binds) && slices.Equal(a.Bib.Sessions, b.Bib.Sessions) &&
		slices.Equal(a.Pieces, b.Pieces) && a.Bucket == b.Bucket && a.Now == b.Now
}

func wantGate(t *testing.T, what string, got impl.Gateway, want impl.Gateway) {
	t.Helper()
	if !sameGate(got, want) {
		t.Errorf("%s: got the gateway %q, want %q", what, gateText(got), gateText(want))
	}
}

// someTexts are read, and not read; what is told of them beside a right gateway is another thing.
func someTexts() []string {
	return []string{"", "x", "\x45", "\x60", layFour(sent(flowFrom(impl.Udp, hostA, 1002, peerA, 53), 0)),
		layFour(packetWith(sent(flowFrom(impl.Udp, peerA, 53, lentOne, 1002), 0), func(q *impl.V4) { q.Ttl = 1 })),
		laySix(goesBySix(impl.Udp, hostSix, 40000, peerB, 53, 0)), filler(impl.MaxBytes)}
}

// wantGateAs holds the gateway for right or not. One that is not right takes nothing in, and has no time.
func wantGateAs(t *testing.T, what string, g impl.Gateway, right bool) {
	t.Helper()
	wantAnswer(t, what, impl.GwRight(g), right)
	wantAnswer(t, what+" (as reckoned)", gateIsRight(g), right)
	for _, inside := range bothSides {
		if right {
			wantGwOut(t, what+": x", impl.GwIn(g, inside, "x"), impl.GwOut{Gateway: g, Code: impl.ErrSyntax})
			continue
		}
		for _, text := range someTexts() {
			wantGwOut(t, what+": takes nothing in", impl.GwIn(g, inside, text), impl.GwOut{Code: impl.ErrForm})
		}
		wantGwOut(t, what+": a text that is too long", impl.GwIn(g, inside, filler(impl.MaxBytes+1)), impl.GwOut{Code: impl.ErrSize})
	}
	for _, n := range []int64{0, 1, 30, 500} {
		want := g
		if right && n <= 1000000000-g.Now {
			want = gateLater(g, n)
		}
		wantGate(t, fmt.Sprintf("%s: %d later", what, n), impl.GwTick(g, n), want)
	}
}

func TestGateOfHomeIsRight(t *testing.T) {
	wantGateAs(t, "home", homeGate(), true)
	wantGateAs(t, "nothing", impl.Gateway{}, false)
	wantGateAs(t, "no routes, binds and pieces", gateWith(homeGate(), func(g *impl.Gateway) { g.Routes, g.Bib, g.Pieces = nil, impl.Bib{}, nil }), true)
}

func TestGateRoutesAtLimits(t *testing.T) {
	for _, l := range routeLists() {
		wantGateAs(t, fmt.Sprintf("%d routes", len(l)), gateWith(homeGate(), func(g *impl.Gateway) { g.Routes = l }), true)
	}
	for count, right := range map[int]bool{99: true, 100: true, 101: false, 400: false, 401: false} {
		wantGateAs(t, fmt.Sprintf("%d routes", count), gateWith(homeGate(), func(g *impl.Gateway) { g.Routes = manyRoutes(count) }), right)
	}
	for _, hop := range append(slices.Clone(wrongHops), 1, 500, 501, 1000) {
		g := gateWith(homeGate(), func(g *impl.Gateway) { g.Routes[5].Hop = hop })
		wantGateAs(t, fmt.Sprintf("a hop of %d", hop), g, among(hop, 1, 1000))
	}
	for at := range homeRoutes() {
		for what, change := range map[string]func(r *impl.Route){
			"a bit behind": func(r *impl.Route) {
				size := len(r.Prefix.Addr)
				r.Prefix = impl.Prefix{Addr: r.Prefix.Addr[:size-1] + "\x01", Bits: int64(8*size - 1)}
			},
			"another's":          func(r *impl.Route) { r.Prefix = homeRoutes()[(at+1)%17].Prefix },
			"Bits below 0":       func(r *impl.Route) { r.Prefix.Bits = -1 },
			"too many Bits":      func(r *impl.Route) { r.Prefix.Bits = int64(8*len(r.Prefix.Addr)) + 1 },
			"no address":         func(r *impl.Route) { r.Prefix.Addr = "" },
			"an address too far": func(r *impl.Route) { r.Prefix.Addr += "\x00" },
		} {
			wantGateAs(t, fmt.Sprintf("the route of the number %d: %s", at, what), gateWith(homeGate(), func(g *impl.Gateway) { change(&g.Routes[at]) }), false)
		}
	}
}

func TestGatePoolsAndBibsAtLimits(t *testing.T) {
	for what, change := range wrongPools {
		wantGateAs(t, "the pool: "+what, gateWith(homeGate(), func(g *impl.Gateway) { change(&g.Pool) }), false)
	}
	for _, lives := range wrongLives() {
		wantGateAs(t, fmt.Sprintf("lives %+v", lives), gateWith(homeGate(), func(g *impl.Gateway) { g.Pool.Lives = lives }), false)
	}
	for what, change := range wrongBibs {
		wantGateAs(t, "the bib: "+what, gateWith(homeGate(), func(g *impl.Gateway) { change(&g.Bib) }), false)
	}
	for count := range 10 {
		g := gateWith(homeGate(), func(g *impl.Gateway) { g.Pool.Addrs, g.Bib = lentAddrs(count), impl.Bib{} })
		wantGateAs(t, fmt.Sprintf("%d addresses", count), g, among(int64(count), 1, 8))
	}
	for _, most := range []int64{-1, 0, 1, 6, 7, 8, 59, 60, 61, math.MaxInt64, math.MinInt64} {
		wantGateAs(t, fmt.Sprintf("Most of %d", most), gateWith(homeGate(), func(g *impl.Gateway) { g.Pool.Most = most }), among(most, 7, 60))
		empty := gateWith(homeGate(), func(g *impl.Gateway) { g.Pool.Most, g.Bib = most, impl.Bib{} })
		wantGateAs(t, fmt.Sprintf("Most of %d, and no binds", most), empty, among(most, 1, 60))
	}
	for filter := int64(-1); filter < 5; filter++ {
		wantGateAs(t, fmt.Sprintf("Filter of %d", filter), gateWith(homeGate(), func(g *impl.Gateway) { g.Pool.Filter = filter }), among(filter, 0, 2))
	}
	// A session whose time has come, and one of the latest time that there is, are right.
	for _, until := range []int64{-1, 0, 99, 100, 2000000000, 2000000001} {
		g := gateWith(homeGate(), func(g *impl.Gateway) { g.Bib.Sessions[0].Until = until })
		wantGateAs(t, fmt.Sprintf("Until of %d", until), g, among(until, 0, 2000000000))
	}
}

func TestGatePrefixesAtLimits(t *testing.T) {
	for _, x := range sixPrefixes {
		wantGateAs(t, told(x), gateWith(homeGate(), func(g *impl.Gateway) { g.Six = x }), true)
	}
	for _, x := range wrongForEmbed() {
		wantGateAs(t, told(x), gateWith(homeGate(), func(g *impl.Gateway) { g.Six = x }), false)
	}
	for bits := int64(-1); bits <= 129; bits++ {
		x := impl.Prefix{Addr: strings.Repeat("\x00", 16), Bits: bits}
		right := slices.Contains([]int64{32, 40, 48, 56, 64, 96}, bits)
		wantGateAs(t, fmt.Sprintf("%d bits", bits), gateWith(homeGate(), func(g *impl.Gateway) { g.Six = x }), right)
	}
}

func TestGateAddressesAtLimits(t *testing.T) {
	for _, size := range []int{0, 1, 3, 4, 5, 8, 15, 16, 17, 32, impl.MaxBytes, impl.MaxBytes + 1} {
		for _, text := range []string{filler(size), strings.Repeat("\x00", size), strings.Repeat("\xff", size)} {
			wantGateAs(t, fmt.Sprintf("Four1 of %d bytes", size), gateWith(homeGate(), func(g *impl.Gateway) { g.Four1 = text }), size == 4)
			wantGateAs(t, fmt.Sprintf("Six1 of %d bytes", size), gateWith(homeGate(), func(g *impl.Gateway) { g.Six1 = text }), size == 16)
		}
	}
	// Its own addresses may be anybody's.
	wantGateAs(t, "a lent one", gateWith(homeGate(), func(g *impl.Gateway) { g.Four1, g.Six1 = lentOne, hostSix }), true)
}

func TestGateMtusAtLimits(t *testing.T) {
	for _, mtu := range []int64{0, 1, -1280, 68, 1279, 1280, 1281, 1400, 1499, 1500, 1501, 9000, 65536 + 1280, 1<<32 + 1280, math.MinInt64, math.MaxInt64} {
		wantGateAs(t, fmt.Sprintf("an Mtu of %d", mtu), gateWith(homeGate(), func(g *impl.Gateway) { g.Mtu = mtu }), among(mtu, 1280, 1500))
	}
}

func TestGatePiecesAtLimits(t *testing.T) {
	for count := range 43 {
		g := gateWith(homeGate(), func(g *impl.Gateway) { g.Pieces = flockOfPieces(count) })
		wantGateAs(t, fmt.Sprintf("%d pieces", count), g, count <= 40)
	}
	wantGateAs(t, "very many pieces", gateWith(homeGate(), func(g *impl.Gateway) { g.Pieces = slices.Repeat(homePieces(), 200) }), false)
	for what, change := range map[string]func(l []impl.Piece){
		"without Data":  func(l []impl.Piece) { l[0].Data = "" },
		"too much Data": func(l []impl.Piece) { l[1].Data = filler(1401) },
		"no eights":     func(l []impl.Piece) { l[2].Data = filler(9) },
		"two ends":      func(l []impl.Piece) { l[2].Src = hostA },
		"one twice":     func(l []impl.Piece) { l[1] = l[0] },
		"no time":       func(l []impl.Piece) { l[1].Since = -1 },
		"too late":      func(l []impl.Piece) { l[1].Since = 1000000001 },
		"a long Src":    func(l []impl.Piece) { l[2].Src = filler(impl.MaxBytes + 1) },
	} {
		wantGateAs(t, "pieces: "+what, gateWith(homeGate(), func(g *impl.Gateway) { change(g.Pieces) }), false)
	}
	// Pieces that came later than now, or long ago, are right.
	for _, since := range []int64{0, 99, 101, 1000000000} {
		wantGateAs(t, fmt.Sprintf("a piece since %d", since), gateWith(homeGate(), func(g *impl.Gateway) { g.Pieces[1].Since = since }), true)
	}
}

func TestGateBucketsAndTimesAtLimits(t *testing.T) {
	for _, most := range []int64{-1, 0, 1, 2, 100, 101} {
		for _, left := range []int64{-1, 0, 1, 2, 100, 101} {
			for _, each := range []int64{-1, 0, 1, 1000, 1001} {
				g := gateWith(homeGate(), func(g *impl.Gateway) { g.Bucket.Most, g.Bucket.Left, g.Bucket.Each = most, left, each })
				wantGateAs(t, fmt.Sprintf("the bucket %+v", g.Bucket), g, among(most, 1, 100) && among(left, 0, most) && among(each, 1, 1000))
			}
		}
	}
	for _, now := range append([]int64{0, 1, 50, 99, 100, 999999999, 1000000000}, noTimes...) {
		for _, since := range append([]int64{0, 1, now - 1, now, now + 1, 1000000000}, noTimes...) {
			g := gateWith(homeGate(), func(g *impl.Gateway) { g.Now, g.Bucket.Since = now, since })
			right := among(now, 0, 1000000000) && among(since, 0, now)
			wantGateAs(t, fmt.Sprintf("Now %d, the bucket's Since %d", now, since), g, right)
		}
	}
}

// gateMade goes by the document's words.
func gateMade(routes []impl.Route, p impl.Pool, six impl.Prefix, mtu int64) impl.Gateway {
	_, takes := placesIn(six)
	if !routesAreRight(routes) || !poolIsRight(p) || !takes || !among(mtu, 1280, 1500) {
		return impl.Gateway{}
	}
	return impl.Gateway{Routes: routes, Pool: p, Six: six, Mtu: mtu, Bucket: impl.Bucket{Left: 5, Most: 5, Each: 2},
		Four1: "\xc0\x00\x02\x01", Six1: "\x20\x01\x0d\xb8\x00\x00\x00\x00\x00\x00\x00\x00\x00\x00\x00\x01"}
}

// wantMade asks for promise 24 of what is right, and for the zero gateway of all else.
func wantMade(t *testing.T, what string, routes []impl.Route, p impl.Pool, six impl.Prefix, mtu int64, right bool) {
	t.Helper()
	got := impl.GwNew(routes, p, six, mtu)
	wantGate(t, what, got, gateMade(routes, p, six, mtu))
	wantAnswer(t, what+": right", impl.GwRight(got), right)
	if !right {
		wantGate(t, what, got, impl.Gateway{})
		return
	}
	wantAnswer(t, what+": its own addresses", impl.AddrText(got.Four1) == "192.0.2.1" && impl.AddrText(got.Six1) == "2001:db8::1", true)
	wantAnswer(t, what+": its bucket", got.Bucket == impl.Bucket{Left: 5, Most: 5, Each: 2}, true)
	wantNumber(t, what+": binds, sessions and pieces", int64(len(got.Bib.Binds)+len(got.Bib.Sessions)+len(got.Pieces)), 0)
	wantNumber(t, what+": its time", got.Now, 0)
	for _, proto := range bibProtos {
		for _, lent := range p.Addrs {
			for _, port := range []int64{0, p.Low, p.Low + 1, p.High} {
				wantBind(t, what+": nobody's port", impl.BindAt(got.Bib, proto, lent, port), impl.Bind{})
				wish := impl.PortFor(got.Pool, got.Bib, proto, hostA, min(max(port, p.Low), p.High))
				wantNumber(t, what+": a port that is wished for is free", wish.Bind.OutPort, min(max(port, p.Low), p.High))
			}
		}
	}
}

func TestGateMadeByHand(t *testing.T) {
	routes := []impl.Route{route("10.0.0.0/8", 7), route("0.0.0.0/0", 600)}
	want := impl.Gateway{Routes: routes, Pool: homePool(), Six: homeSix, Four1: gateFour, Six1: gateSix, Mtu: 1400,
		Bucket: impl.Bucket{Left: 5, Most: 5, Each: 2, Since: 0}}
	wantGate(t, "by hand", impl.GwNew(routes, homePool(), homeSix, 1400), want)
	wantGate(t, "of nothing", impl.GwNew(nil, impl.Pool{}, impl.Prefix{}, 0), impl.Gateway{})
}

func TestGateMade(t *testing.T) {
	d := dice(24)
	lists := append(routeLists(), homeRoutes(), manyRoutes(99), manyRoutes(100))
	for i, l := range lists {
		wantMade(t, fmt.Sprintf("the list of the number %d", i), l, homePool(), homeSix, 1280, true)
	}
	for _, count := range []int{101, 399, 400, 401, 1000} {
		wantMade(t, fmt.Sprintf("%d routes", count), manyRoutes(count), homePool(), homeSix, 1280, false)
	}
	for _, hop := range wrongHops {
		wantMade(t, fmt.Sprintf("a hop of %d", hop), append(homeRoutes(), route("9.0.0.0/8", hop)), homePool(), homeSix, 1280, false)
	}
	wantMade(t, "a route twice", append(homeRoutes(), route("10.0.0.0/8", 9)), homePool(), homeSix, 1280, false)
	wantMade(t, "no prefix", append(homeRoutes(), impl.Route{Hop: 9}), homePool(), homeSix, 1280, false)
	for _, x := range sixPrefixes {
		wantMade(t, told(x), homeRoutes(), homePool(), x, 1280, true)
	}
	for _, x := range wrongForEmbed() {
		wantMade(t, told(x), homeRoutes(), homePool(), x, 1280, false)
	}
	for _, mtu := range append([]int64{0, 1279, 1280, 1281, 1400, 1499, 1500, 1501}, noWords...) {
		wantMade(t, fmt.Sprintf("an Mtu of %d", mtu), homeRoutes(), homePool(), homeSix, mtu, among(mtu, 1280, 1500))
	}
	for what, change := range wrongPools {
		p := poolWith(homePool(), change)
		wantMade(t, "the pool: "+what, homeRoutes(), p, homeSix, 1280, poolIsRight(p))
	}
	for _, lives := range wrongLives() {
		wantMade(t, "lives", homeRoutes(), poolWith(homePool(), func(p *impl.Pool) { p.Lives = lives }), homeSix, 1280, false)
	}
	for range 200 {
		wantMade(t, "a pool by chance", madeRoutes(uint32(d.upTo(1000)), int(d.upTo(100)), 20), d.pool(), sixPrefixes[d.upTo(10)], 1280+d.upTo(220), true)
	}
}

// Each choice of things that are not right: one is enough for the zero gateway.
func TestGateMadeOfWrongThings(t *testing.T) {
	for marks := range 16 {
		routes, p, six, mtu := homeRoutes(), homePool(), homeSix, int64(1500)
		if marks&1 != 0 {
			routes[3].Hop = 1001
		}
		if marks&2 != 0 {
			p.Low = 0
		}
		if marks&4 != 0 {
			six.Bits = 95
		}
		if marks&8 != 0 {
			mtu = 1501
		}
		wantMade(t, fmt.Sprintf("wrong by %04b", marks), routes, p, six, mtu, marks == 0)
	}
}

// textsOfGate are all texts of a gateway.
func textsOfGate(g impl.Gateway) []string {
	texts := append(textsOfBib(g.Bib), textsOf(g.Pieces...)...)
	for _, r := range g.Routes {
		texts = append(texts, r.Prefix.Addr)
	}
	return append(append(texts, g.Pool.Addrs...), g.Six.Addr, g.Four1, g.Six1)
}

// ownGate is a gateway whose texts lie apart from all others, with room behind its lists.
func ownGate(g impl.Gateway) impl.Gateway {
	g.Bib = ownBib(g.Bib)
	g.Routes, g.Pool.Addrs = append(make([]impl.Route, 0, 120), g.Routes...), append(make([]string, 0, 12), g.Pool.Addrs...)
	g.Pieces = append(make([]impl.Piece, 0, 50), g.Pieces...)
	for i := range g.Routes {
		g.Routes[i].Prefix.Addr = strings.Clone(g.Routes[i].Prefix.Addr)
	}
	for i := range g.Pool.Addrs {
		g.Pool.Addrs[i] = strings.Clone(g.Pool.Addrs[i])
	}
	for i, p := range g.Pieces {
		g.Pieces[i].Src, g.Pieces[i].Dst, g.Pieces[i].Data = strings.Clone(p.Src), strings.Clone(p.Dst), strings.Clone(p.Data)
	}
	g.Six.Addr, g.Four1, g.Six1 = strings.Clone(g.Six.Addr), strings.Clone(g.Four1), strings.Clone(g.Six1)
	return g
}

// wholeGate shows what stands behind the lists of a gateway, too.
func wholeGate(g impl.Gateway) impl.Gateway {
	g.Bib = wholeBib(g.Bib)
	g.Routes, g.Pool.Addrs, g.Pieces = g.Routes[:cap(g.Routes)], g.Pool.Addrs[:cap(g.Pool.Addrs)], g.Pieces[:cap(g.Pieces)]
	return g
}

func spoilGate(g impl.Gateway) {
	spoil(g.Routes)
	spoil(g.Pool.Addrs)
	spoil(g.Pieces)
	spoil(g.Bib.Binds)
	spoil(g.Bib.Sessions)
}

func TestGateMadeIsNewMemory(t *testing.T) {
	for _, mtu := range []int64{1280, 1279} {
		from := ownGate(homeGate())
		before := gateText(wholeGate(from))
		got := impl.GwNew(from.Routes, from.Pool, from.Six, mtu)
		again := impl.GwNew(from.Routes, from.Pool, from.Six, mtu)
		want := gateMade(homeRoutes(), homePool(), homeSix, mtu)
		wantNewTexts(t, "made", textsOfGate(got), textsOfGate(from))
		wantNewTexts(t, "made twice", textsOfGate(got), textsOfGate(again))
		wantApart(t, "made", textsOfGate(got))
		wantText(t, "what was handed in", gateText(wholeGate(from)), before)
		spoilGate(got)
		wantText(t, "what was handed in, the answer spoilt", gateText(wholeGate(from)), before)
		spoilGate(from)
		wantGate(t, "what was handed in spoilt", again, want)
	}
}
