package journal_test

import (
	"bytes"
	"encoding/binary"
	"hash/adler32"
	"math"
	"math/rand"
	"reflect"
	"slices"
	"testing"

	"craquelure/api"
	"craquelure/geo"
	"craquelure/journal"
	"craquelure/sample"
)

// small is a layout whose upper layer is the sectors 13 to 24, and whose log, 25 to 31, has room for three writes.
var small = api.Geo{Lowers: 1, Inodes: 5, Blocks: 6, Log: 7}

const (
	first, last = 13, 24 // sectors of small's upper layer
	logAt       = 25
)

// sealed is 64 bytes: those of b, bytes 0, and the library's sum of the first 60.
func sealed(b ...byte) []byte {
	l := make([]byte, 60)
	copy(l, b)
	return binary.LittleEndian.AppendUint32(l, adler32.Checksum(l))
}

// head is the first sector of a log that says that it has so many writes, and this sum.
func head(many int, sum uint32) []byte {
	b := binary.LittleEndian.AppendUint16([]byte{74, 82, 78, 76, 1}, uint16(many))
	return sealed(binary.LittleEndian.AppendUint32(b, sum)...)
}

// record is two sectors of a log: one that tells at, and b.
func record(at int, b []byte) []byte {
	return append(sealed(binary.LittleEndian.AppendUint32(nil, uint32(at))...), b...)
}

func records(l []api.Write) []byte {
	var b []byte
	for _, w := range l {
		b = append(b, record(w.At, w.Bytes)...)
	}
	return b
}

// logOf is a log of so many writes, whose records are these.
func logOf(many int, records []byte) []byte {
	return append(head(many, adler32.Checksum(records)), records...)
}

// sector is 64 bytes, other ones for each n.
func sector(n int) []byte {
	b := make([]byte, 64)
	for i := range b {
		b[i] = byte(n*31 + i*7 + 1)
	}
	return b
}

func write(at int) api.Write {
	return api.Write{At: at, Bytes: sector(at)}
}

func writes(ats ...int) []api.Write {
	var l []api.Write
	for _, at := range ats {
		l = append(l, write(at))
	}
	return l
}

// image is an image whose layers have any bytes, and whose log begins with these, and has bytes 0 behind them.
func image(t *testing.T, g api.Geo, log []byte) []byte {
	t.Helper()
	b, e := geo.Put(g)
	if e != api.OK || len(log) > 64*g.Log {
		t.Fatal(g, len(log))
	}
	for n := 1; n < geo.Total(g)-g.Log; n++ {
		b = append(b, sector(n)...)
	}
	return append(b, append(bytes.Clone(log), make([]byte, 64*g.Log-len(log))...)...)
}

func alike(a, b []api.Write) bool {
	return slices.EqualFunc(a, b, func(x, y api.Write) bool { return x.At == y.At && bytes.Equal(x.Bytes, y.Bytes) })
}

func mustRead(t *testing.T, why string, b []byte, want []api.Write) {
	t.Helper()
	if l, ok := journal.Read(b); !ok || !alike(l, want) {
		t.Errorf("%s: Read: %v, %v, not %v", why, l, ok, want)
	}
}

func mustNotRead(t *testing.T, why string, b []byte) {
	t.Helper()
	if l, ok := journal.Read(b); ok || len(l) != 0 {
		t.Errorf("%s: Read: %v, %v", why, l, ok)
	}
}

// wrongLayouts is layouts of which one number alone is wrong, at the limits and far off.
func wrongLayouts() []api.Geo {
	l := []api.Geo{{}, {Lowers: 4, Inodes: 5, Blocks: 6, Log: 7}, {Lowers: 1, Inodes: 3, Blocks: 6, Log: 7}, {Lowers: 1, Inodes: 25, Blocks: 6, Log: 7}, {Lowers: 1, Inodes: 5, Blocks: 61, Log: 7}, {Lowers: 1, Inodes: 5, Blocks: 6, Log: 65}}
	for _, n := range append(sample.Far(), -1, 0) {
		l = append(l, api.Geo{Lowers: n, Inodes: 5, Blocks: 6, Log: 7}, api.Geo{Lowers: 1, Inodes: n, Blocks: 6, Log: 7}, api.Geo{Lowers: 1, Inodes: 5, Blocks: n, Log: 7}, api.Geo{Lowers: 1, Inodes: 5, Blocks: 6, Log: n})
	}
	return l
}

// The chapter's example.
func TestExample(t *testing.T) {
	if got := journal.Cap(api.Geo{Lowers: 1, Inodes: 5, Blocks: 6, Log: 5}); got != 2 {
		t.Errorf("Cap: %d", got)
	}
}

// P27.1: Cap of each Log, even and odd, of the least and of the greatest one: one sector, and two a write.
func TestCap(t *testing.T) {
	for log, want := range map[int]int{1: 0, 2: 0, 3: 1, 4: 1, 5: 2, 6: 2, 7: 3, 62: 30, 63: 31, 64: 31} {
		if got := journal.Cap(api.Geo{Lowers: 1, Inodes: 4, Blocks: 1, Log: log}); got != want {
			t.Errorf("Cap of a log of %d: %d", log, got)
		}
	}
	for log := 1; log <= 64; log++ {
		for _, g := range []api.Geo{{Lowers: 1, Inodes: 4, Blocks: 1, Log: log}, {Lowers: 3, Inodes: 24, Blocks: 60, Log: log}, {Lowers: 2, Inodes: 9, Blocks: 33, Log: log}} {
			want := 0
			for 1+2*(want+1) <= log {
				want++
			}
			if got := journal.Cap(g); got != want {
				t.Errorf("Cap of %v: %d", g, got)
			}
		}
	}
}

// P27.1: of a layout that may not be there is no room, and no list is right.
func TestCapOfWrongLayouts(t *testing.T) {
	for _, g := range wrongLayouts() {
		if got := journal.Cap(g); got != 0 {
			t.Errorf("Cap of %v: %d", g, got)
		}
		for at := -1; at < 40; at++ {
			if journal.Right(g, writes(at)) {
				t.Errorf("Right of %v at %d", g, at)
			}
		}
		if journal.Right(g, nil) {
			t.Errorf("Right of %v, of nothing", g)
		}
	}
}

// P27.1: no writes, one, as many as there is room for, and one more.
func TestRightMany(t *testing.T) {
	for log := 1; log <= 64; log++ {
		g := api.Geo{Lowers: 2, Inodes: 9, Blocks: 40, Log: log}
		room := (log - 1) / 2
		for many := range 70 {
			var l []api.Write
			for i := range many {
				l = append(l, write(101+i%50))
			}
			if got := journal.Right(g, l); got != (many >= 1 && many <= room) {
				t.Errorf("Right of %d, in a log of %d: %v", many, log, got)
			}
		}
	}
	if journal.Right(small, []api.Write{}) {
		t.Error("Right of nothing")
	}
	if journal.Right(small, slices.Repeat(writes(first), 70000)) {
		t.Error("Right of more than any log has room for")
	}
	if !journal.Right(small, writes(first, first, first)) {
		t.Error("Right of one sector, three times")
	}
}

// P27.1: each write must have 64 bytes: fewer, none, and more are wrong, wherever that one stands.
func TestRightBytes(t *testing.T) {
	for many := 1; many <= 3; many++ {
		for i := range many {
			for n := range 200 {
				l := writes(first, first+1, last)[:many]
				l[i].Bytes = make([]byte, n)
				if got := journal.Right(small, l); got != (n == 64) {
					t.Errorf("Right, write %d of %d has %d bytes: %v", i, many, n, got)
				}
			}
			l := writes(first, first+1, last)[:many]
			l[i].Bytes = nil
			if journal.Right(small, l) {
				t.Errorf("Right, write %d of %d has no bytes", i, many)
			}
		}
	}
}

// P27.1: each write must be at a sector of the upper layer, wherever it stands: its first, its last, and those between; none ahead or behind, and no byte's place.
func TestRightAt(t *testing.T) {
	ats := append(sample.Far(), 64*first, 64*first+32, 64*last, first<<8, 1<<32+first, -first, math.MinInt+first)
	for at := -3; at < 40; at++ {
		ats = append(ats, at)
	}
	for many := 1; many <= 3; many++ {
		for i := range many {
			for _, at := range ats {
				l := writes(first, first+5, last)[:many]
				l[i].At = at
				if got := journal.Right(small, l); got != (at >= 13 && at <= 24) {
					t.Errorf("Right, write %d of %d at %d: %v", i, many, at, got)
				}
			}
		}
	}
	for lowers := 1; lowers <= 3; lowers++ {
		g := api.Geo{Lowers: lowers, Inodes: 4, Blocks: 2, Log: 3}
		for at := range 40 {
			if got := journal.Right(g, writes(at)); got != (at >= 1+7*lowers && at <= 7+7*lowers) {
				t.Errorf("Right at %d, over %d lower layers: %v", at, lowers, got)
			}
		}
	}
}

// P27.2: Empty is sealed: 74, 82, 78, 76, 0.
func TestEmpty(t *testing.T) {
	if got := journal.Empty(); !bytes.Equal(got, sealed(74, 82, 78, 76, 0)) {
		t.Errorf("Empty: %v", got)
	}
}

// P27.2: Head and Records of none, of one, and of several, by their bytes.
func TestHeadAndRecords(t *testing.T) {
	for many, want := range [][]byte{0: {74, 82, 78, 76, 1, 0, 0, 1, 0, 0, 0}, 1: {74, 82, 78, 76, 1, 1, 0}, 2: {74, 82, 78, 76, 1, 2, 0}, 3: {74, 82, 78, 76, 1, 3, 0}} {
		l := writes(13, 0x01020304, 7)[:many]
		got := journal.Records(l)
		if len(got) != 128*many || !bytes.Equal(got, records(l)) {
			t.Errorf("Records of %d: %v", many, got)
		}
		h := journal.Head(l)
		if len(h) != 64 || !bytes.HasPrefix(h, want) || !bytes.Equal(h, head(many, adler32.Checksum(got))) {
			t.Errorf("Head of %d: %v", many, h)
		}
	}
	got := journal.Records(writes(0x01020304))
	if !bytes.Equal(got[:64], sealed(4, 3, 2, 1)) || !bytes.Equal(got[64:], sector(0x01020304)) {
		t.Errorf("Records: %v", got)
	}
	if got := journal.Head(nil); !bytes.Equal(got, sealed(74, 82, 78, 76, 1, 0, 0, 1)) {
		t.Errorf("Head of nothing: %v", got)
	}
}

// P27.2: how many there are is laid in two bytes.
func TestHeadOfMany(t *testing.T) {
	for _, many := range []int{255, 256, 257, 300, 65535} {
		l := slices.Repeat([]api.Write{{At: 5, Bytes: []byte{1}}}, many)
		got := journal.Head(l)
		if !bytes.Equal(got, head(many, adler32.Checksum(journal.Records(l)))) {
			t.Errorf("Head of %d: %v", many, got)
		}
	}
	if got := journal.Head(make([]api.Write, 65536)); len(got) != 64 || !bytes.Equal(got, sealed(got[:60]...)) || !bytes.HasPrefix(got, []byte{74, 82, 78, 76, 1}) {
		t.Errorf("Head of more than two bytes can hold: %v", got)
	}
}

// P27.2: bytes that are fewer than 64 have bytes 0 behind them, and those that are more are cut.
func TestRecordsBytes(t *testing.T) {
	long := append(sector(1), sector(2)...)
	for n := range len(long) + 1 {
		want := make([]byte, 64)
		copy(want, long[:n])
		l := []api.Write{{At: 3, Bytes: long[:n]}, write(4)}
		if got := journal.Records(l); !bytes.Equal(got, append(record(3, want), record(4, sector(4))...)) {
			t.Errorf("Records of %d bytes: %v", n, got)
		}
		if got := journal.Head(l); !bytes.Equal(got, head(2, adler32.Checksum(append(record(3, want), record(4, sector(4))...)))) {
			t.Errorf("Head of %d bytes: %v", n, got)
		}
	}
	if got := journal.Records([]api.Write{{At: 3}}); !bytes.Equal(got, record(3, make([]byte, 64))) {
		t.Errorf("Records of no bytes: %v", got)
	}
}

// P27.2: of an At that does not fit into 4 bytes none are laid.
func TestRecordsAt(t *testing.T) {
	for _, at := range []int{-1, math.MinInt, -1 << 32, 1 << 32, 1<<32 + 13, math.MaxInt} {
		if got := journal.Records(writes(at, 5)); !bytes.Equal(got, slices.Concat(sealed(), sector(at), record(5, sector(5)))) {
			t.Errorf("Records at %d: %v", at, got)
		}
	}
	for _, at := range []int{0, 1, 255, 256, 65535, 65536, 1<<24 + 7, 1<<31 - 1, 1 << 31, 1<<32 - 1} {
		if got := journal.Records(writes(at)); !bytes.Equal(got, record(at, sector(at))) {
			t.Errorf("Records at %d: %v", at, got)
		}
	}
}

// P27.4: what was laid is read, of each length that there is room for; a log that is full too.
func TestReadWhatIsLaid(t *testing.T) {
	for log := 1; log <= 64; log++ {
		g := api.Geo{Lowers: 1, Inodes: 5, Blocks: 30, Log: log}
		for many := 1; many <= (log-1)/2; many++ {
			var l []api.Write
			for i := range many {
				l = append(l, api.Write{At: 37 + (i*5+many)%36, Bytes: sector(i + many)})
			}
			mustRead(t, "laid", image(t, g, append(journal.Head(l), journal.Records(l)...)), l)
		}
	}
	b := image(t, small, append(journal.Head(writes(20, 13)), journal.Records(writes(20, 13))...))
	mustRead(t, "laid", b, writes(20, 13))
	mustRead(t, "laid by the words", image(t, small, logOf(2, records(writes(20, 13)))), writes(20, 13))
	l := []api.Write{{At: 13, Bytes: make([]byte, 64)}, {At: 13, Bytes: make([]byte, 64)}}
	mustRead(t, "one sector twice, of bytes 0", image(t, small, logOf(2, records(l))), l)
}

// P27.4: a log that begins with Empty, or with bytes 0, has nothing, whatever lies behind.
func TestReadNothing(t *testing.T) {
	for log := 1; log <= 9; log++ {
		g := api.Geo{Lowers: 1, Inodes: 5, Blocks: 6, Log: log}
		mustNotRead(t, "bytes 0", image(t, g, nil))
		mustNotRead(t, "Empty", image(t, g, journal.Empty()))
		if many := (log - 1) / 2; many > 0 {
			laid := records(slices.Repeat(writes(20), many))
			mustNotRead(t, "bytes 0, and records", image(t, g, append(make([]byte, 64), laid...)))
			mustNotRead(t, "Empty, and records", image(t, g, append(journal.Empty(), laid...)))
			sum := adler32.Checksum(laid)
			full := head(many, sum)
			full[4] = 0
			mustNotRead(t, "Empty, of writes", image(t, g, append(sealed(full[:60]...), laid...)))
		}
	}
}

// P27.3: what lies behind the records is not asked, also not what would be one more record.
func TestReadBehind(t *testing.T) {
	laid := logOf(1, records(writes(20)))
	mustRead(t, "any bytes behind", image(t, small, append(bytes.Clone(laid), bytes.Repeat([]byte{255}, 256)...)), writes(20))
	mustRead(t, "a record behind", image(t, small, append(bytes.Clone(laid), records(writes(21, 22))...)), writes(20))
	mustRead(t, "a broken record behind", image(t, small, append(bytes.Clone(laid), record(0, sector(1))...)), writes(20))
	for at := len(laid); at < 64*7; at++ {
		b := image(t, small, laid)
		b[64*logAt+at] = 1
		mustRead(t, "a byte behind", b, writes(20))
	}
}

// P27.3: a head that says another number than what the records are: none, fewer, more, more than there is room for.
func TestReadCount(t *testing.T) {
	l := records(writes(13, 20, 24))
	for many := range 300 {
		whole := logOf(many, l)
		sum := logOf(many, l[:128*min(many, 3)])
		b, c := image(t, small, whole), image(t, small, append(sum[:64:64], l...))
		if many != 3 {
			mustNotRead(t, "another number", b)
		} else {
			mustRead(t, "the number", b, writes(13, 20, 24))
		}
		if many < 1 || many > 3 {
			mustNotRead(t, "a number that may not be", c)
		} else {
			mustRead(t, "fewer", c, writes(13, 20, 24)[:many])
		}
	}
	for _, many := range []int{256 + 1, 256 + 3, 512 + 3, 65535} {
		mustNotRead(t, "the lowest byte is right", image(t, small, logOf(many, l)))
	}
	for log := 1; log <= 6; log++ {
		g := api.Geo{Lowers: 1, Inodes: 5, Blocks: 6, Log: log}
		for many := 1; 1+2*(many-1) <= log; many++ {
			part := logOf(many, records(slices.Repeat(writes(20), many)))
			b := image(t, g, part[:min(len(part), 64*log)])
			if 1+2*many <= log {
				mustRead(t, "as many as there is room for", b, slices.Repeat(writes(20), many))
			} else {
				mustNotRead(t, "more than there is room for", b)
			}
		}
	}
}

// P27.3: each byte of the head and of the records, changed: nothing is read.
func TestReadChanged(t *testing.T) {
	l := writes(13, 24)
	laid := logOf(2, records(l))
	for at := range laid {
		for _, x := range []byte{1, 16, 128, 255} {
			b := image(t, small, laid)
			b[64*logAt+at] ^= x
			mustNotRead(t, "a byte is another one", b)
		}
	}
	for sum := range uint32(300) {
		right := adler32.Checksum(records(l))
		b := image(t, small, append(head(2, right+sum), records(l)...))
		if sum == 0 {
			mustRead(t, "the sum", b, l)
		} else {
			mustNotRead(t, "another sum", b)
		}
	}
}

// P27.3: a head that is sealed, and has other bytes ahead of its numbers or behind them.
func TestReadHead(t *testing.T) {
	l := writes(13, 24)
	right := head(2, adler32.Checksum(records(l)))
	for at := range 60 {
		h := bytes.Clone(right)
		h[at] ^= 1
		mustNotRead(t, "another head, sealed", image(t, small, append(sealed(h[:60]...), records(l)...)))
	}
	unsealed := bytes.Clone(right)
	binary.BigEndian.PutUint32(unsealed[60:], binary.LittleEndian.Uint32(right[60:]))
	mustNotRead(t, "sealed the other way round", image(t, small, append(unsealed, records(l)...)))
}

// P27.3: records that are sealed wrongly, or have more bytes than an At, though the head has their sum.
func TestReadRecords(t *testing.T) {
	l := writes(13, 24, 20)
	for i := range l {
		for at := range 64 {
			b := records(l)
			b[128*i+at] ^= 1
			mustNotRead(t, "sealed wrongly", image(t, small, logOf(3, b)))
			if at >= 4 && at < 60 {
				copy(b[128*i:], sealed(b[128*i:128*i+60]...))
				mustNotRead(t, "more than an At", image(t, small, logOf(3, b)))
			}
		}
		b := records(l)
		clear(b[128*i : 128*i+64])
		mustNotRead(t, "a record of bytes 0", image(t, small, logOf(3, b)))
		for at := 64; at < 128; at++ {
			b := records(l)
			b[128*i+at] ^= 1
			want := writes(13, 24, 20)
			want[i].Bytes[at-64] ^= 1
			mustRead(t, "other bytes", image(t, small, logOf(3, b)), want)
		}
	}
}

// P27.3: records that name a sector that is none of the upper layer, wherever they stand.
func TestReadAt(t *testing.T) {
	for many := 1; many <= 3; many++ {
		for i := range many {
			for _, at := range []int{0, 1, 12, 13, 14, 23, 24, 25, 26, 31, 32, 13 << 8, 64 * 13, 65536 + 13, 1<<31 + 13, 1<<32 - 1} {
				l := writes(13, 20, 24)[:many]
				l[i].At = at
				b := image(t, small, logOf(many, records(l)))
				if at >= 13 && at <= 24 {
					mustRead(t, "a sector of the upper layer", b, l)
				} else {
					mustNotRead(t, "a sector that is none", b)
				}
			}
		}
	}
}

// P27.3: of bytes that are no image nothing is read, whatever log they have.
func TestReadNoImage(t *testing.T) {
	b := image(t, small, logOf(2, records(writes(13, 24))))
	mustRead(t, "an image", b, writes(13, 24))
	mustNotRead(t, "nothing", nil)
	mustNotRead(t, "nothing", []byte{})
	for n := range b {
		mustNotRead(t, "cut", b[:n])
	}
	for _, n := range []int{1, 63, 64, 65, 128, 192} {
		mustNotRead(t, "more bytes", append(bytes.Clone(b), make([]byte, n)...))
	}
	mustNotRead(t, "another first byte", append([]byte{83}, b[1:]...))
	for at := range 64 {
		c := bytes.Clone(b)
		c[at] ^= 1
		mustNotRead(t, "another first sector", c)
	}
	mustNotRead(t, "the log alone", b[64*logAt:])
	for _, g := range wrongLayouts()[1:6] {
		h := sealed(82, 84, 66, 76, 1, byte(g.Lowers), byte(g.Inodes), byte(g.Blocks), byte(g.Log))
		sectors := 1 + (g.Lowers+1)*(1+g.Inodes+g.Blocks)
		c := append(h, make([]byte, 64*(sectors-1))...)
		c = append(c, logOf(1, records(writes(sectors-1)))...)
		mustNotRead(t, "a layout that may not be", append(c, make([]byte, 64*(g.Log-3))...))
	}
}

// reading is what a log is read as, by the chapter's words: the writes of some number of which it begins with what is laid.
func reading(g api.Geo, b []byte) []api.Write {
	from := 1 + g.Lowers*(1+g.Inodes+g.Blocks)
	to := from + g.Inodes + g.Blocks
	log := b[64*(to+1):]
	for many := 1; 1+2*many <= g.Log; many++ {
		var l []api.Write
		for i := range many {
			r := log[64+128*i:]
			at := int(binary.LittleEndian.Uint32(r))
			if at >= from && at <= to {
				l = append(l, api.Write{At: at, Bytes: r[64:128]})
			}
		}
		if len(l) == many && bytes.HasPrefix(log, logOf(many, records(l))) {
			return l
		}
	}
	return nil
}

// spoiled is a log in which something is another one; where sealed again, by its own sum.
func spoiled(r *rand.Rand, many int, l []api.Write) []byte {
	b := records(l)
	log := logOf(many, b)
	switch r.Intn(7) {
	case 0:
		log[r.Intn(len(log))] ^= 1 << r.Intn(8)
	case 1:
		log = logOf(r.Intn(many+3), b)
	case 2:
		i := r.Intn(many)
		l[i].At = r.Intn(120)
		log = logOf(many, records(l))
	case 3:
		b[r.Intn(len(b))] ^= 1 << r.Intn(8)
		log = logOf(many, b)
	case 4:
		log[4] = byte(r.Intn(3))
		copy(log, sealed(log[:60]...))
	}
	return log
}

// P27.1 to P27.4: many logs, held against a second reading of the words.
func TestMany(t *testing.T) {
	r := rand.New(rand.NewSource(1))
	met := [2]int{}
	for range 6000 {
		g := api.Geo{Lowers: 1 + r.Intn(3), Inodes: 4 + r.Intn(4), Blocks: 1 + r.Intn(9), Log: 3 + r.Intn(12)}
		span := 1 + g.Inodes + g.Blocks
		many := 1 + r.Intn((g.Log-1)/2)
		var l []api.Write
		for range many {
			l = append(l, api.Write{At: 1 + g.Lowers*span + r.Intn(span), Bytes: sector(r.Intn(100))})
		}
		log := spoiled(r, many, l)
		b := image(t, g, log)
		for at := len(b) - 64*g.Log + len(log); at < len(b); at++ {
			b[at] = byte(r.Intn(256))
		}
		before := bytes.Clone(b)
		want := reading(g, b)
		if want == nil {
			met[0]++
			mustNotRead(t, "spoiled", b)
		} else {
			met[1]++
			mustRead(t, "whole", b, want)
			if !journal.Right(g, want) {
				t.Errorf("not Right: %v", want)
			}
		}
		if !bytes.Equal(b, before) {
			t.Fatal("the image is changed")
		}
	}
	if met[0] < 1000 || met[1] < 1000 {
		t.Error(met)
	}
}

// P0: logs of any bytes, of any lengths.
func TestAnyBytes(t *testing.T) {
	r := rand.New(rand.NewSource(2))
	for range 3000 {
		g := api.Geo{Lowers: 1, Inodes: 4, Blocks: 1, Log: 1 + r.Intn(64)}
		log := make([]byte, 64*g.Log)
		r.Read(log)
		copy(log, []byte{74, 82, 78, 76, 1, byte(r.Intn(40)), byte(r.Intn(2))})
		copy(log, sealed(log[:60]...))
		mustNotRead(t, "any bytes", image(t, g, log))
	}
}

// The answers share no memory with what was handed in, nor with other answers; what was handed in stays as it is.
func TestAnswersShareNothing(t *testing.T) {
	shared := func() []api.Write { return writes(13, 24, 20) }
	l := shared()
	for _, call := range []func() []byte{
		journal.Empty,
		func() []byte { return journal.Head(l) },
		func() []byte { return journal.Records(l) },
	} {
		one, other := call(), call()
		want := bytes.Clone(other)
		for i := range one[:cap(one)] {
			one[:cap(one)][i] ^= 255
		}
		if !bytes.Equal(other, want) || !bytes.Equal(call(), want) {
			t.Error("two answers share")
		}
	}
	journal.Right(small, l)
	if !reflect.DeepEqual(l, shared()) {
		t.Errorf("changed: %v", l)
	}
	kept := journal.Records(l)
	for i := range l {
		clear(l[i].Bytes)
	}
	if !bytes.Equal(kept, records(shared())) {
		t.Error("Records change with what was handed in")
	}
}

// What is read shares no memory with the image, nor with what is read again, nor one write with another.
func TestReadSharesNothing(t *testing.T) {
	b := image(t, small, logOf(3, records(writes(13, 24, 20))))
	before := bytes.Clone(b)
	kept, _ := journal.Read(b)
	l, _ := journal.Read(b)
	for i := range l {
		whole := l[i].Bytes[:cap(l[i].Bytes)]
		for j := range whole {
			whole[j] ^= 255
		}
		for j := i + 1; j < len(l); j++ {
			if !bytes.Equal(l[j].Bytes, writes(13, 24, 20)[j].Bytes) {
				t.Errorf("writes %d and %d share", i, j)
			}
		}
	}
	clear(l[:cap(l)])
	if !bytes.Equal(b, before) {
		t.Error("the image is changed")
	}
	clear(b)
	if !alike(kept, writes(13, 24, 20)) {
		t.Errorf("read: %v", kept)
	}
}
