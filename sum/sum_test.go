package sum

import (
	"encoding/binary"
	"hash/crc32"
	"hash/fnv"
	"math"
	"math/rand"
	"strings"
	"testing"

	"additive/api"
)

// samples are strings of many kinds and lengths.
func samples() []string {
	l := []string{
		"", "\x00", "\x00\x00", "\xff", "\xff\xff", "\x80", "\x01", "a", "ab", "ba", "abc", "123456789",
		"N3 G28", "N1 M140 S60000", "\u00e4\u20ac", "\xe4\xff\xc0", "a\x00b", "\r\n", "\xff\xff\xff\xff",
		strings.Repeat("\x00", 300), strings.Repeat("\xff", 300),
	}
	random := rand.New(rand.NewSource(3))
	for length := range 70 {
		s := make([]byte, length)
		for i := range s {
			s[i] = byte(random.Intn(256))
		}
		l = append(l, string(s))
	}
	return l
}

// remainder returns the CRC16 of s as the remainder of a division of polynomials, bit by bit, as a number with bits of 0 and 1 does it.
func remainder(s string) int {
	register := 0xffff
	for _, b := range []byte(s) {
		for bit := 7; bit >= 0; bit-- {
			top := register>>15 ^ int(b)>>bit&1
			register = register << 1 & 0xffff
			if top == 1 {
				register ^= 0x1021
			}
		}
	}
	return register
}

// P3.1: known values.
func TestKnownSums(t *testing.T) {
	for _, q := range []struct {
		s     string
		xor   int
		crc16 int
		crc32 uint32
		hash  uint64
	}{
		{"", 0, 0xffff, 0, 14695981039346656037},
		{"123456789", 0x31, 0x29b1, 0xcbf43926, 0x06d5573923c6cdfc},
		{"a", 0x61, 0x9d77, 0xe8b7be43, 0xaf63dc4c8601ec8c},
		{"foobar", 0x17, 0xbe35, 0x9ef61f95, 0x85944171f73967e8},
		{"\x00", 0, 0xe1f0, 0xd202ef8d, 0xaf63bd4c8601b7df},
		{"\xff\x0f", 0xf0, 0xef1f, 0x4242f21c, 0x0a999907b6f5f5d3},
	} {
		if got := Xor(q.s); got != q.xor {
			t.Errorf("Xor(%q) = %#x; want %#x", q.s, got, q.xor)
		}
		if got := CRC16(q.s); got != q.crc16 {
			t.Errorf("CRC16(%q) = %#x; want %#x", q.s, got, q.crc16)
		}
		if got := CRC32(q.s); got != q.crc32 {
			t.Errorf("CRC32(%q) = %#x; want %#x", q.s, got, q.crc32)
		}
		if got := Hash(q.s); got != q.hash {
			t.Errorf("Hash(%q) = %#x; want %#x", q.s, got, q.hash)
		}
	}
}

// P3.1: all bytes of all samples count, also those that are no UTF-8.
func TestSums(t *testing.T) {
	for _, s := range samples() {
		xor := byte(0)
		for _, b := range []byte(s) {
			xor ^= b
		}
		if got := Xor(s); got != int(xor) {
			t.Errorf("Xor(%q) = %#x; want %#x", s, got, xor)
		}
		if got, want := CRC16(s), remainder(s); got != want {
			t.Errorf("CRC16(%q) = %#x; want %#x", s, got, want)
		}
		if got, want := CRC32(s), crc32.ChecksumIEEE([]byte(s)); got != want {
			t.Errorf("CRC32(%q) = %#x; want %#x", s, got, want)
		}
		h := fnv.New64a()
		h.Write([]byte(s))
		if got, want := Hash(s), h.Sum64(); got != want {
			t.Errorf("Hash(%q) = %#x; want %#x", s, got, want)
		}
	}
}

// P3.2.
func TestMix(t *testing.T) {
	words := []uint64{0, 1, 2, 255, 256, 0x0102030405060708, 1 << 32, 1 << 56, 1 << 63, math.MaxUint64, math.MaxUint64 - 1}
	for _, a := range words {
		for _, b := range words {
			code := binary.LittleEndian.AppendUint64(nil, a)
			code = binary.LittleEndian.AppendUint64(code, b)
			h := fnv.New64a()
			h.Write(code)
			if got, want := Mix(a, b), h.Sum64(); got != want {
				t.Errorf("Mix(%#x, %#x) = %#x; want %#x", a, b, got, want)
			}
		}
	}
	if got, want := Mix(0x6867666564636261, 0x706f6e6d6c6b6a69), Hash("abcdefghijklmnop"); got != want {
		t.Errorf("Mix of the bytes from a to p = %#x; want %#x", got, want)
	}
}

// P3.3.
func TestSeal(t *testing.T) {
	if got := Seal("123456789"); got != "123456789\x29\xb1" {
		t.Errorf("Seal(123456789) = %q", got)
	}
	if got := Seal(""); got != "\xff\xff" {
		t.Errorf("Seal of nothing = %q", got)
	}
	for _, s := range samples() {
		want := string(binary.BigEndian.AppendUint16([]byte(s), uint16(remainder(s))))
		if got := Seal(s); got != want {
			t.Errorf("Seal(%q) = %q; want %q", s, got, want)
		}
	}
}

// checkOpen checks that Open returns an error and nothing else.
func checkOpen(t *testing.T, s string, want api.Errno) {
	t.Helper()
	if got, e := Open(s); got != "" || e != want {
		t.Errorf("Open(%q) = %q, %d; want error %d", s, got, e, want)
	}
}

// P3.4.
func TestOpen(t *testing.T) {
	for _, s := range []string{"", "a", "\x00", "\xff"} {
		checkOpen(t, s, api.ErrTruncated)
	}
	for _, s := range []string{
		"\x00\x00", "\xff\xfe", "\xfe\xff", "ab", "123456789", "123456789\xb1\x29", "123456789\x29", "123456789\x29\xb1\x01",
		"12345678\x29\xb1", "\x29\xb1", "123456789\x29\xb0", "123456789\x28\xb1",
	} {
		checkOpen(t, s, api.ErrChecksum)
	}
	if got, e := Open("\xff\xff"); got != "" || e != api.OK {
		t.Errorf("Open of the sealed empty string = %q, %d", got, e)
	}
	if got, e := Open("123456789\x29\xb1"); got != "123456789" || e != api.OK {
		t.Errorf("Open of the sealed string 123456789 = %q, %d", got, e)
	}
}

// P3.5: strings come back.
func TestSealedStringsAreOpened(t *testing.T) {
	for _, s := range samples() {
		if got, e := Open(Seal(s)); got != s || e != api.OK {
			t.Errorf("Open of the sealed string %q = %q, %d", s, got, e)
		}
	}
}

// P3.5: one byte that is changed, in any way.
func TestOneByteIsChanged(t *testing.T) {
	for _, s := range []string{"", "a", "N3 G28", "\x00\x00\x00", "\xff\xff"} {
		sealed := Seal(s)
		for i := range len(sealed) {
			for change := 1; change < 256; change++ {
				spoilt := []byte(sealed)
				spoilt[i] ^= byte(change)
				checkOpen(t, string(spoilt), api.ErrChecksum)
			}
		}
	}
}

// P3.5: two neighboring bytes that are changed, in any way.
func TestTwoBytesAreChanged(t *testing.T) {
	for _, s := range []string{"", "ab\x00"} {
		sealed := Seal(s)
		for i := range len(sealed) - 1 {
			for change := 1; change < 1<<16; change++ {
				spoilt := []byte(sealed)
				spoilt[i] ^= byte(change >> 8)
				spoilt[i+1] ^= byte(change)
				checkOpen(t, string(spoilt), api.ErrChecksum)
			}
		}
	}
}

// P3.6.
func TestSumsOfSums(t *testing.T) {
	for _, s := range samples() {
		for _, more := range samples() {
			if got, want := Xor(s+more), Xor(s)^Xor(more); got != want {
				t.Errorf("Xor(%q) = %#x; want %#x", s+more, got, want)
			}
		}
		if got := CRC16(Seal(s)); got != 0 {
			t.Errorf("CRC16 of the sealed string %q = %#x", s, got)
		}
	}
}
