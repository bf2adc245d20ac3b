package dev_test

import (
	"bytes"
	"math"
	"math/rand"
	"slices"
	"testing"

	"craquelure/api"
	"craquelure/dev"
)

// mixed is n bytes that are unlike, and not 0.
func mixed(n int) []byte {
	l := make([]byte, n)
	x := uint32(n) + 1
	for i := range l {
		x = x*1664525 + 1013904223
		l[i] = byte(x>>24) | 1
	}
	return l
}

// filled is a sector's bytes, all x.
func filled(x byte) []byte {
	return bytes.Repeat([]byte{x}, 64)
}

// shape is all that a disk tells, but by Read.
type shape struct {
	size            int
	off             bool
	waiting         []int
	safe, bytes     []byte
	writes, flushes int
}

func shapeOf(d *dev.Disk) shape {
	return shape{d.Size(), d.Off(), d.Waiting(), d.Safe(), d.Bytes(), d.Writes(), d.Flushes()}
}

func alike(a, b shape) bool {
	return a.size == b.size && a.off == b.off && slices.Equal(a.waiting, b.waiting) &&
		bytes.Equal(a.safe, b.safe) && bytes.Equal(a.bytes, b.bytes) && a.writes == b.writes && a.flushes == b.flushes
}

func mustBe(t *testing.T, what string, d *dev.Disk, want shape) {
	t.Helper()
	if got := shapeOf(d); !alike(got, want) {
		t.Fatalf("%s: %v, and not %v", what, got, want)
	}
}

func mustAnswer(t *testing.T, what string, got, want api.Errno) {
	t.Helper()
	if got != want {
		t.Fatalf("%s: error %d, and not %d", what, got, want)
	}
}

// mustRead holds each sector that is read against the bytes that are wanted.
func mustRead(t *testing.T, what string, d *dev.Disk, want []byte) {
	t.Helper()
	for i := range len(want) / 64 {
		if b, e := d.Read(i); e != api.OK || !bytes.Equal(b, want[64*i:64*i+64]) {
			t.Fatalf("%s: Read(%d): %v, error %d", what, i, b, e)
		}
	}
}

// P5.1: as many sectors as there are whole ones, with these bytes, all safe; the power is on.
func TestNew(t *testing.T) {
	for _, n := range []int{0, 1, 63, 64, 65, 127, 128, 129, 191, 192, 64 * 100, 64*100 + 63} {
		b := mixed(n)
		whole := b[:n/64*64]
		d := dev.New(b)
		mustBe(t, "new", d, shape{size: n / 64, safe: whole, bytes: whole})
		mustRead(t, "new", d, whole)
		d.Crash([]bool{true, true})
		mustBe(t, "new, and a crash", d, shape{size: n / 64, safe: whole, bytes: whole})
	}
	mustBe(t, "of nil", dev.New(nil), shape{})
}

// P5.1: a disk of no sector has none to read or write, and is flushed.
func TestNoSector(t *testing.T) {
	for _, d := range []*dev.Disk{dev.New(nil), dev.New([]byte{}), dev.New(make([]byte, 63)), new(dev.Disk)} {
		b, e := d.Read(0)
		mustAnswer(t, "Read", e, api.ErrRange)
		if len(b) != 0 {
			t.Errorf("Read: %v", b)
		}
		mustAnswer(t, "Write", d.Write(0, filled(1)), api.ErrRange)
		mustAnswer(t, "Flush", d.Flush(), api.OK)
		d.Crash([]bool{true})
		mustBe(t, "no sector", d, shape{flushes: 1})
		d.Arm(0)
		mustAnswer(t, "Flush of no power", d.Flush(), api.ErrPower)
		mustBe(t, "no sector, no power", d, shape{flushes: 1, off: true})
	}
}

// P5.1: what was written last is read, safe or not; a Flush makes it safe.
func TestReadAndWrite(t *testing.T) {
	b := mixed(192)
	d := dev.New(b)
	now := bytes.Clone(b)
	write := func(i int, x byte) {
		mustAnswer(t, "Write", d.Write(i, filled(x)), api.OK)
		copy(now[64*i:], filled(x))
	}
	write(1, 7)
	mustBe(t, "one", d, shape{size: 3, waiting: []int{1}, safe: b, bytes: now, writes: 1})
	mustRead(t, "one", d, now)
	write(0, 8)
	write(1, 9)
	write(2, 10)
	mustBe(t, "four", d, shape{size: 3, waiting: []int{1, 0, 1, 2}, safe: b, bytes: now, writes: 4})
	mustRead(t, "four", d, now)
	mustAnswer(t, "Flush", d.Flush(), api.OK)
	mustBe(t, "flushed", d, shape{size: 3, safe: now, bytes: now, writes: 4, flushes: 1})
	mustRead(t, "flushed", d, now)
	safe := bytes.Clone(now)
	write(2, 11)
	mustBe(t, "one more", d, shape{size: 3, waiting: []int{2}, safe: safe, bytes: now, writes: 5, flushes: 1})
	mustAnswer(t, "Flush", d.Flush(), api.OK)
	mustAnswer(t, "Flush of nothing", d.Flush(), api.OK)
	mustBe(t, "flushed again", d, shape{size: 3, safe: now, bytes: now, writes: 5, flushes: 3})
}

// P5.1: there is no sector below 0, nor behind the last one.
func TestSectors(t *testing.T) {
	for n := range 4 {
		for _, i := range []int{math.MinInt, -64, -2, -1, 0, 1, 2, 3, 4, 63, 64, 1 << 32, math.MaxInt - 1, math.MaxInt} {
			d := dev.New(mixed(64*n + 63))
			want := api.OK
			if i < 0 || i >= n {
				want = api.ErrRange
			}
			b, e := d.Read(i)
			mustAnswer(t, "Read", e, want)
			if (len(b) == 64) != (want == api.OK) || want != api.OK && len(b) != 0 {
				t.Errorf("Read(%d) of %d sectors: %v", i, n, b)
			}
			mustAnswer(t, "Write", d.Write(i, filled(1)), want)
			if got := d.Writes(); (got == 1) != (want == api.OK) {
				t.Errorf("Write(%d) of %d sectors: %d writes", i, n, got)
			}
		}
	}
}

// P5.1: ErrNil, ErrRange, ErrArg, ErrPower: the first of those that apply; nothing is done.
func TestFirstError(t *testing.T) {
	powers := map[string]func(d *dev.Disk){
		"on":   func(d *dev.Disk) {},
		"off":  func(d *dev.Disk) { d.Arm(0); d.Flush() },
		"last": func(d *dev.Disk) { d.Arm(0) },
	}
	for power, set := range powers {
		for _, i := range []int{-1, 0, 1, 2} {
			for _, n := range []int{0, 1, 63, 64, 65, 128} {
				d := dev.New(mixed(128))
				d.Write(0, filled(3))
				set(d)
				before := shapeOf(d)
				want := api.OK
				switch {
				case i < 0 || i > 1:
					want = api.ErrRange
				case n != 64:
					want = api.ErrArg
				case power != "on":
					want = api.ErrPower
					before.off = true
				}
				mustAnswer(t, "Write, power "+power, d.Write(i, mixed(n)), want)
				if want != api.OK {
					mustBe(t, "Write, power "+power, d, before)
				}
			}
		}
	}
	for i, want := range map[int]api.Errno{-1: api.ErrRange, 0: api.ErrPower, 1: api.ErrPower, 2: api.ErrRange} {
		d := dev.New(mixed(128))
		powers["off"](d)
		b, e := d.Read(i)
		mustAnswer(t, "Read, power off", e, want)
		if len(b) != 0 {
			t.Errorf("Read(%d), power off: %v", i, b)
		}
	}
	d := dev.New(mixed(128))
	powers["last"](d)
	mustRead(t, "Read, power failing next", d, mixed(128))
	mustBe(t, "Read, power failing next", d, shape{size: 2, safe: mixed(128), bytes: mixed(128)})
}

// P5.1: bytes of a wrong length are not written, though the first 64 would be there.
func TestLengths(t *testing.T) {
	for n := range 200 {
		d := dev.New(make([]byte, 128))
		want := api.ErrArg
		if n == 64 {
			want = api.OK
		}
		mustAnswer(t, "Write", d.Write(1, mixed(n)), want)
		if got := d.Writes(); (got == 1) != (n == 64) {
			t.Errorf("%d bytes: %d writes", n, got)
		}
	}
	d := dev.New(make([]byte, 64))
	mustAnswer(t, "Write of nil", d.Write(0, nil), api.ErrArg)
}

// step is a Write or a Flush, as the letter says.
func step(d *dev.Disk, letter rune) api.Errno {
	if letter == 'w' {
		return d.Write(0, filled(9))
	}
	return d.Flush()
}

// P5.2: n Writes and Flushes come through, at the next one the power fails, and stays off; Reads are not counted.
func TestArm(t *testing.T) {
	for _, steps := range []string{"wwwwww", "ffffff", "wfwfwf", "fwfwfw", "wwwfff", "ffwwff"} {
		for n := range 8 {
			d := dev.New(make([]byte, 64))
			d.Arm(n)
			writes, flushes := 0, 0
			for i, letter := range steps {
				if i < n {
					d.Read(0)
					d.Read(1)
				}
				if d.Off() != (i > n) {
					t.Fatalf("%s, %d armed: off ahead of step %d: %v", steps, n, i, d.Off())
				}
				want := api.OK
				if i >= n {
					want = api.ErrPower
				}
				mustAnswer(t, steps, step(d, letter), want)
				if want == api.OK && letter == 'w' {
					writes++
				} else if want == api.OK {
					flushes++
				}
			}
			if d.Off() != (n < len(steps)) || d.Writes() != writes || d.Flushes() != flushes {
				t.Fatalf("%s, %d armed: off %v, %d writes, %d flushes", steps, n, d.Off(), d.Writes(), d.Flushes())
			}
		}
	}
}

// P5.2: at the Write, or the Flush, at which the power fails, nothing is done.
func TestPowerFailsNow(t *testing.T) {
	for n := range 3 {
		for _, letter := range "wf" {
			d := dev.New(make([]byte, 64))
			d.Write(0, filled(5))
			d.Arm(n)
			for range n {
				d.Write(0, filled(6))
			}
			want := shapeOf(d)
			want.off = true
			mustAnswer(t, "now", step(d, letter), api.ErrPower)
			mustBe(t, "now", d, want)
			mustAnswer(t, "Write, off", d.Write(0, filled(7)), api.ErrPower)
			mustAnswer(t, "Flush, off", d.Flush(), api.ErrPower)
			mustBe(t, "off", d, want)
		}
	}
}

// P5.2: below 0 the power does not fail; so it is at first.
func TestNotArmed(t *testing.T) {
	arm := map[string]func(d *dev.Disk){
		"never":          func(d *dev.Disk) {},
		"-1":             func(d *dev.Disk) { d.Arm(-1) },
		"least":          func(d *dev.Disk) { d.Arm(math.MinInt) },
		"greatest":       func(d *dev.Disk) { d.Arm(math.MaxInt) },
		"0, and then -1": func(d *dev.Disk) { d.Arm(0); d.Arm(-1) },
		"2, and then -5": func(d *dev.Disk) { d.Arm(2); d.Flush(); d.Arm(-5) },
	}
	for what, set := range arm {
		d := dev.New(make([]byte, 64))
		set(d)
		for range 50 {
			mustAnswer(t, what, d.Write(0, filled(1)), api.OK)
			mustAnswer(t, what, d.Flush(), api.OK)
		}
		if d.Off() {
			t.Errorf("%s: off", what)
		}
	}
}

// P5.2: what is armed last counts, from then on.
func TestArmAgain(t *testing.T) {
	for first := range 4 {
		for second := range 4 {
			d := dev.New(make([]byte, 64))
			d.Arm(first)
			for range first {
				mustAnswer(t, "first", d.Flush(), api.OK)
			}
			d.Arm(second)
			for range second {
				mustAnswer(t, "second", d.Write(0, filled(1)), api.OK)
			}
			mustAnswer(t, "behind both", d.Flush(), api.ErrPower)
		}
	}
}

// P5.2: what is not done, as it is out of range or of a wrong length, is not counted, and lets no power fail.
func TestArmCountsWhatIsDone(t *testing.T) {
	d := dev.New(make([]byte, 64))
	d.Arm(1)
	for range 3 {
		d.Write(1, filled(1))
		d.Write(-1, filled(1))
		d.Write(0, nil)
		d.Write(0, mixed(65))
	}
	mustAnswer(t, "the first that is right", d.Write(0, filled(1)), api.OK)
	d.Write(1, filled(1))
	d.Write(0, nil)
	if d.Off() {
		t.Error("off by a Write that is not right")
	}
	mustAnswer(t, "the second that is right", d.Write(0, filled(1)), api.ErrPower)
}

// P5.2: Arm brings no power back; a Crash does, and leaves the disk not armed, however it was armed while off.
func TestArmWhileOff(t *testing.T) {
	for _, n := range []int{math.MinInt, -1, 0, 1, 5, math.MaxInt} {
		d := dev.New(make([]byte, 64))
		d.Arm(0)
		d.Flush()
		d.Arm(n)
		if !d.Off() {
			t.Fatalf("armed %d while off: on", n)
		}
		_, e := d.Read(0)
		mustAnswer(t, "Read", e, api.ErrPower)
		mustAnswer(t, "Write", d.Write(0, filled(1)), api.ErrPower)
		mustAnswer(t, "Flush", d.Flush(), api.ErrPower)
		d.Crash(nil)
		for range 10 {
			mustAnswer(t, "Write behind the crash", d.Write(0, filled(1)), api.OK)
			mustAnswer(t, "Flush behind the crash", d.Flush(), api.OK)
		}
	}
}

// P5.2: a Crash while the power is on, and what is armed has not come yet.
func TestCrashOfArmed(t *testing.T) {
	for n := range 4 {
		d := dev.New(make([]byte, 64))
		d.Arm(n)
		d.Crash(nil)
		for range 10 {
			mustAnswer(t, "Write", d.Write(0, filled(1)), api.OK)
			mustAnswer(t, "Flush", d.Flush(), api.OK)
		}
	}
}

// P5.2: of writes of sectors 0, 1, 0 and 1 those are safe that are kept, the later one of two; the power may be on or off.
func TestCrash(t *testing.T) {
	for length := range 7 {
		for bits := range 1 << length {
			kept := make([]bool, length)
			for i := range kept {
				kept[i] = bits>>i&1 == 1
			}
			for _, off := range []bool{false, true} {
				start := mixed(192)
				d := dev.New(start)
				want := bytes.Clone(start)
				for i := range 4 {
					x := filled(byte(100 + i))
					d.Write(i%2, x)
					if i < length && kept[i] {
						copy(want[i%2*64:], x)
					}
				}
				if off {
					d.Arm(0)
					d.Flush()
				}
				d.Crash(kept)
				mustBe(t, "crashed", d, shape{size: 3, safe: want, bytes: want, writes: 4})
				mustRead(t, "crashed", d, want)
				d.Crash([]bool{true, true, true, true})
				mustBe(t, "crashed twice", d, shape{size: 3, safe: want, bytes: want, writes: 4})
			}
		}
	}
}

// P5.2: Write of sector 0, Crash of nothing kept: as it was.
func TestCrashOfNothingKept(t *testing.T) {
	for _, kept := range [][]bool{nil, {}, {false}, {false, true}, {false, false, true, true}} {
		d := dev.New(mixed(64))
		d.Write(0, filled(1))
		d.Crash(kept)
		mustBe(t, "nothing kept", d, shape{size: 1, safe: mixed(64), bytes: mixed(64), writes: 1})
		mustAnswer(t, "Flush", d.Flush(), api.OK)
		mustBe(t, "nothing kept, and flushed", d, shape{size: 1, safe: mixed(64), bytes: mixed(64), writes: 1, flushes: 1})
	}
}

// P5.3: while the power is off all is told but by Read.
func TestToldWhileOff(t *testing.T) {
	b := mixed(128)
	d := dev.New(b)
	d.Flush()
	d.Write(1, filled(4))
	d.Write(1, filled(2))
	d.Arm(0)
	d.Write(0, filled(3))
	now := append(bytes.Clone(b[:64]), filled(2)...)
	mustBe(t, "off", d, shape{size: 2, off: true, waiting: []int{1, 1}, safe: b, bytes: now, writes: 2, flushes: 1})
}

// P5.1, P5.3: no disk at all.
func TestNil(t *testing.T) {
	var d *dev.Disk
	for _, n := range []int{math.MinInt, -1, 0, 1, math.MaxInt} {
		d.Arm(n)
		d.Crash(nil)
		d.Crash([]bool{true, false})
		mustBe(t, "nil", d, shape{})
		b, e := d.Read(n)
		mustAnswer(t, "Read", e, api.ErrNil)
		if len(b) != 0 {
			t.Errorf("Read: %v", b)
		}
		mustAnswer(t, "Write", d.Write(n, nil), api.ErrNil)
		mustAnswer(t, "Write of a sector", d.Write(n, filled(1)), api.ErrNil)
		mustAnswer(t, "Flush", d.Flush(), api.ErrNil)
		mustBe(t, "nil", d, shape{})
	}
}

// held is a write that waits in a model of a disk.
type held struct {
	at int
	b  []byte
}

// model is a disk that works all out anew from what is safe, and what waits.
type model struct {
	safe            []byte
	waiting         []held
	left            int
	off             bool
	writes, flushes int
}

func (m *model) fails() bool {
	if m.left == 0 {
		m.off = true
	}
	if !m.off && m.left > 0 {
		m.left--
	}
	return m.off
}

func (m *model) write(i int, b []byte) api.Errno {
	switch {
	case i < 0 || i >= len(m.safe)/64:
		return api.ErrRange
	case len(b) != 64:
		return api.ErrArg
	case m.fails():
		return api.ErrPower
	}
	m.waiting = append(m.waiting, held{i, bytes.Clone(b)})
	m.writes++
	return api.OK
}

func (m *model) flush() api.Errno {
	if m.fails() {
		return api.ErrPower
	}
	m.safe, m.waiting = m.shape().bytes, nil
	m.flushes++
	return api.OK
}

func (m *model) crash(kept []bool) {
	for i := range m.waiting {
		if i < len(kept) && kept[i] {
			copy(m.safe[64*m.waiting[i].at:], m.waiting[i].b)
		}
	}
	m.waiting, m.left, m.off = nil, -1, false
}

func (m *model) shape() shape {
	s := shape{size: len(m.safe) / 64, off: m.off, safe: m.safe, bytes: bytes.Clone(m.safe), writes: m.writes, flushes: m.flushes}
	for _, w := range m.waiting {
		s.waiting = append(s.waiting, w.at)
		copy(s.bytes[64*w.at:], w.b)
	}
	return s
}

func someKept(r *rand.Rand, n int) []bool {
	kept := make([]bool, max(0, n+r.Intn(5)-2))
	for i := range kept {
		kept[i] = r.Intn(2) == 0
	}
	return kept
}

// P5.1, P5.2, P5.3, P5.4: many disks, and what is done with them, against the model.
func TestManySteps(t *testing.T) {
	r := rand.New(rand.NewSource(1))
	for range 300 {
		n := r.Intn(6)
		start := mixed(64 * n)
		d, m := dev.New(start), &model{safe: start, left: -1}
		for range 100 {
			switch r.Intn(12) {
			case 0:
				mustAnswer(t, "Flush", d.Flush(), m.flush())
				if !d.Off() && !bytes.Equal(d.Safe(), d.Bytes()) {
					t.Fatal("flushed, and not safe")
				}
			case 1:
				kept := someKept(r, len(m.waiting))
				d.Crash(kept)
				m.crash(kept)
				if !bytes.Equal(d.Safe(), d.Bytes()) {
					t.Fatal("behind a crash Bytes are not Safe")
				}
			case 2:
				left := r.Intn(20) - 4
				d.Arm(left)
				m.left = max(left, -1)
			default:
				i, b := r.Intn(n+2)-1, filled(byte(r.Intn(256)))[:64-r.Intn(9)/8]
				mustAnswer(t, "Write", d.Write(i, b), m.write(i, b))
			}
			want := m.shape()
			mustBe(t, "many steps", d, want)
			if !want.off {
				mustRead(t, "many steps", d, want.bytes)
			}
		}
	}
}

// P5.4: behind a Flush a Crash changes nothing that is safe, or read.
func TestCrashBehindFlush(t *testing.T) {
	for _, kept := range [][]bool{nil, {false, false, false}, {true, true, true}, {true, false, true, true, true}} {
		d := dev.New(mixed(192))
		for i := range 3 {
			d.Write(i, filled(byte(i)))
		}
		mustAnswer(t, "Flush", d.Flush(), api.OK)
		want := shapeOf(d)
		d.Crash(kept)
		mustBe(t, "behind a Flush", d, want)
		mustRead(t, "behind a Flush", d, want.bytes)
	}
}

// spoil changes all bytes of a list, and of the room behind it.
func spoil(b []byte) {
	b = b[:cap(b)]
	for i := range b {
		b[i] ^= 0xff
	}
}

// Answers share no memory with what was handed in, nor with what is kept, nor with one another; what is handed in stays.
func TestNothingIsShared(t *testing.T) {
	b, one, kept := mixed(192), filled(1), []bool{true, false}
	before := bytes.Clone(b)
	d := dev.New(b)
	d.Write(0, one)
	d.Write(2, one)
	if !bytes.Equal(b, before) || !bytes.Equal(one, filled(1)) {
		t.Fatal("what was handed in is changed")
	}
	want := shapeOf(d)
	spoil(b)
	spoil(one)
	mustBe(t, "what was handed in is spoilt", d, want)
	spoil(d.Safe())
	spoil(d.Bytes())
	for i := range 3 {
		s, _ := d.Read(i)
		spoil(s)
	}
	waiting := d.Waiting()
	waiting[0], waiting[1] = 7, 7
	mustBe(t, "what was answered is spoilt", d, want)
	d.Crash(kept)
	if !slices.Equal(kept, []bool{true, false}) {
		t.Errorf("kept is %v", kept)
	}
	safe := append(filled(1), before[64:]...)
	mustBe(t, "crashed", d, shape{size: 3, safe: safe, bytes: safe, writes: 2})
	if !bytes.Equal(want.safe, before) || !slices.Equal(want.waiting, []int{0, 2}) {
		t.Error("an answer changed with the disk")
	}
}

// Two disks of the same bytes are not one.
func TestDisksAreApart(t *testing.T) {
	b := mixed(128)
	x, y := dev.New(b), dev.New(b)
	x.Write(0, filled(1))
	x.Flush()
	x.Arm(0)
	x.Flush()
	mustBe(t, "the other one", y, shape{size: 2, safe: b, bytes: b})
	z := dev.New(x.Safe())
	z.Write(1, filled(2))
	z.Flush()
	if got := x.Safe(); !bytes.Equal(got[64:], b[64:]) {
		t.Error("a disk of what is safe of another one writes to that")
	}
}
