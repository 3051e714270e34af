package tests

import (
	"encoding/binary"
	"math/rand"
	"strings"
	"testing"

	"loop.example/g00272/impl"
)

const topAddress = 1<<32 - 1

func TestLimitsOfTheNet(t *testing.T) {
	if impl.MaxBody != 200 || impl.MaxRoutes != 20 || impl.KeySize != 16 || impl.Wide != 32 {
		t.Error(impl.MaxBody, impl.MaxRoutes, impl.KeySize, impl.Wide)
	}
}

// sumIn takes the document's words one by one: 65536 goes, and 1 comes, as long as there is a 65536.
func sumIn(s string) int64 {
	sum := int64(0)
	for len(s) > 0 {
		if len(s) == 1 {
			s += "\x00"
		}
		sum += int64(s[0])*256 + int64(s[1])
		s = s[2:]
		for sum >= 65536 {
			sum = sum - 65536 + 1
		}
	}
	return 65535 - sum
}

// packetIn writes whatever it is given, so that it also makes texts of what is no packet.
func packetIn(mark byte, p impl.Packet, length int) string {
	front := binary.BigEndian.AppendUint16([]byte{mark, byte(p.Kind)}, uint16(length))
	back := binary.BigEndian.AppendUint32(nil, uint32(p.From))
	back = append(binary.BigEndian.AppendUint32(back, uint32(p.To)), p.Body...)
	sum := sumIn(string(front) + string(back))
	return string(binary.BigEndian.AppendUint16(front, uint16(sum))) + string(back)
}

func TestChecksumsByHand(t *testing.T) {
	for s, want := range map[string]int64{
		"":                 65535,
		"\x00":             65535,
		"\x00\x00":         65535,
		"\x01":             65535 - 256,
		"\x00\x01":         65535 - 1,
		"\x01\x00":         65535 - 256,
		"\xff":             255,
		"\x00\xff":         65535 - 255,
		"\xff\x00":         255,
		"\xff\xff":         0,
		"\x12\x34\x56":     65535 - 0x1234 - 0x5600,
		"\x12\x34\x56\x00": 65535 - 0x1234 - 0x5600,
		"\x12\x34\x00\x56": 65535 - 0x1234 - 0x0056,
		"\xff\xff\xff":     65535 - 0xff00,
		"\xff\xff\x00\x01": 65534,
		"\x80\x00\x80":     65534,
		"\xff\xff\xff\xff": 0,
		// The sum is 0x1ffff: when its 65536 has counted as 1 there is one 65536 more.
		"\xff\xff\xff\xff\x00\x01":         65534,
		"\xff\xff\xff\xff\x00\x01\xff\xff": 65534,
		"\xff\xff\xff\xff\x01":             65279,
		"\x00\x01\xf2\x03\xf4\xf5\xf6\xf7": 0x220d,
		"\x00\x01\xf2\x03\xf4\xf5\xf6":     0x2304,
	} {
		if got := impl.Checksum(s); got != want {
			t.Errorf("Checksum(%q) = %d, not %d", s, got, want)
		}
	}
}

func TestChecksumsByTheDocumentsWords(t *testing.T) {
	for a := range 256 {
		for b := range 256 {
			s := string([]byte{byte(a), byte(b)})
			if impl.Checksum(s) != sumIn(s) || impl.Checksum(s[:1]) != sumIn(s[:1]) {
				t.Errorf("%q: %d", s, impl.Checksum(s))
			}
		}
	}
	r := rand.New(rand.NewSource(90))
	for size := range 400 {
		for _, s := range []string{someBytes(r, size), longText("\xff", size), longText("\x00\xff", size)} {
			if got, want := impl.Checksum(s), sumIn(s); got != want {
				t.Errorf("Checksum(%q) = %d, not %d", s, got, want)
			}
		}
	}
	// So many that their sum outgrows 32 bits.
	for _, size := range []int{131072, 131074, 200001, 300000} {
		s := longText("\xff", size) + "\x00\x07"
		if got, want := impl.Checksum(s), sumIn(s); got != want {
			t.Errorf("%d bytes: %d, not %d", size, got, want)
		}
	}
}

func someBytes(r *rand.Rand, size int) string {
	b := make([]byte, size)
	r.Read(b)
	return string(b)
}

func TestPacketsByteByByte(t *testing.T) {
	for want, p := range map[string]impl.Packet{
		"\x45\x00\x00\x00\xba\xff\x00\x00\x00\x00\x00\x00\x00\x00":             {},
		"\x45\x11\x00\x03\xcf\x84\x0a\x00\x00\x01\xff\xff\xff\xffhey":          {From: 10<<24 | 1, To: topAddress, Kind: 17, Body: "hey"},
		"\x45\x09\x00\x01\xa0\xe1\x01\x02\x03\x04\x05\x06\x07\x08\n":           {From: 0x01020304, To: 0x05060708, Kind: 9, Body: "\n"},
		"\x45\xff\x00\x01\xba\xfe\xff\xff\xff\xff\xff\xff\xff\xff\xff":         {From: topAddress, To: topAddress, Kind: 255, Body: "\xff"},
		"\x45\x00\x00\x02\x00\x00\x00\x00\x00\x00\x00\x00\x00\x00\xba\xfd":     {Body: "\xba\xfd"},
		"\x45\x00\x00\x03\xba\xfc\x00\x00\x00\x00\x00\x00\x00\x00\x00\x00\x00": {Body: "\x00\x00\x00"},
	} {
		if got := impl.PacketText(p); got != want {
			t.Errorf("PacketText(%v) = %x, not %x", p, got, want)
		}
		if got, ok := impl.ReadPacket(want); !ok || got != p {
			t.Errorf("ReadPacket(%x) = %v %v, not %v", want, got, ok, p)
		}
	}
}

// edgePackets are packets that can be written, at the ends of each field.
func edgePackets() []impl.Packet {
	var out []impl.Packet
	for _, address := range []int64{0, 1, 255, 256, 65535, 65536, 1 << 31, topAddress - 1, topAddress} {
		for _, kind := range []int64{0, 1, 127, 128, 254, 255} {
			for _, size := range []int{0, 1, 2, 3, 20, 21, impl.MaxBody - 1, impl.MaxBody} {
				out = append(out, impl.Packet{From: address, To: topAddress - address, Kind: kind, Body: longText("\xfe", size)})
			}
		}
	}
	return out
}

// somePackets have a body of each length.
func somePackets(seed int64) []impl.Packet {
	r := rand.New(rand.NewSource(seed))
	var out []impl.Packet
	for size := range impl.MaxBody + 1 {
		out = append(out, impl.Packet{From: r.Int63n(1 << 32), To: r.Int63n(1 << 32), Kind: r.Int63n(256), Body: someBytes(r, size)})
	}
	return out
}

// Promise 7.
func TestPacketsComeBackFromTheirBytes(t *testing.T) {
	for _, p := range append(edgePackets(), somePackets(91)...) {
		s := impl.PacketText(p)
		if s != packetIn(69, p, len(p.Body)) {
			t.Fatalf("PacketText(%v) = %x", p, s)
		}
		if impl.Checksum(s) != 0 || sumIn(s) != 0 {
			t.Errorf("%v: the sum of its bytes is %d", p, impl.Checksum(s))
		}
		if q, ok := impl.ReadPacket(s); !ok || q != p {
			t.Errorf("%v comes back as %v %v", p, q, ok)
		}
	}
}

func TestPacketsThatCanNotBeWritten(t *testing.T) {
	good := impl.Packet{From: 1, To: 2, Kind: 3, Body: "body"}
	if impl.PacketText(good) == "" {
		t.Fatal(good)
	}
	for _, n := range []int64{-1, topAddress + 1, topAddress + 2, lowest, highest, -topAddress} {
		for _, p := range []impl.Packet{{From: n, To: 2, Kind: 3, Body: "body"}, {From: 1, To: n, Kind: 3, Body: "body"}, {From: n, To: n}} {
			if s := impl.PacketText(p); s != "" {
				t.Errorf("PacketText(%v) = %x", p, s)
			}
		}
	}
	for _, n := range []int64{-1, 256, 257, lowest, highest, -255, 1 << 32} {
		p := good
		p.Kind = n
		if s := impl.PacketText(p); s != "" {
			t.Errorf("PacketText(%v) = %x", p, s)
		}
	}
	for _, size := range []int{impl.MaxBody + 1, impl.MaxBody + 2, 456, 65536, 65536 + 4} {
		p := good
		p.Body = longText("b", size)
		if s := impl.PacketText(p); s != "" {
			t.Errorf("a body of %d bytes was written in %d", size, len(s))
		}
	}
}

func checkNoPacket(t *testing.T, what string, s string) {
	t.Helper()
	if p, ok := impl.ReadPacket(s); ok || p != (impl.Packet{}) {
		t.Errorf("%s: ReadPacket(%x) = %v %v", what, s, p, ok)
	}
}

func TestPacketsWithBytesTooFewTooManyOrOthers(t *testing.T) {
	r := rand.New(rand.NewSource(92))
	for _, size := range []int{0, 1, 2, 7, 8, impl.MaxBody - 1, impl.MaxBody} {
		s := impl.PacketText(impl.Packet{From: r.Int63n(1 << 32), To: r.Int63n(1 << 32), Kind: r.Int63n(256), Body: someBytes(r, size)})
		for end := range len(s) {
			checkNoPacket(t, "cut", s[:end])
			checkNoPacket(t, "without its first", s[end+1:])
		}
		for more := range 256 {
			checkNoPacket(t, "one more", s+string([]byte{byte(more)}))
		}
		checkNoPacket(t, "two more", s+"\x00\x00")
		checkNoPacket(t, "twice", s+s)
		checkNoPacket(t, "one ahead", "E"+s)
		for at := range len(s) {
			for turn := 1; turn < 256; turn++ {
				changed := []byte(s)
				changed[at] ^= byte(turn)
				checkNoPacket(t, "another byte", string(changed))
			}
		}
	}
}

// The sum holds in each of these, but they are no packet's text.
func TestPacketsWhoseSumAloneIsRight(t *testing.T) {
	p := impl.Packet{From: 1, To: 2, Kind: 3, Body: "body"}
	if s := packetIn(69, p, 4); s != impl.PacketText(p) {
		t.Fatalf("%x", s)
	}
	for _, mark := range []byte{0, 1, 68, 70, 255} {
		checkNoPacket(t, "another first byte", packetIn(mark, p, 4))
	}
	for _, length := range []int{0, 3, 5, 4 + 256, 65535} {
		checkNoPacket(t, "another length", packetIn(69, p, length))
	}
	for _, size := range []int{impl.MaxBody + 1, 256, 256 + 4, 65535, 65536, 65536 + 4} {
		p.Body = longText("b", size)
		checkNoPacket(t, "too long a body", packetIn(69, p, size))
	}
	nought := impl.PacketText(impl.Packet{Body: "\xba\xfd"})
	other := strings.Replace(nought, "\x00\x02\x00\x00", "\x00\x02\xff\xff", 1)
	if impl.Checksum(nought) != 0 || impl.Checksum(other) != 0 || other == nought {
		t.Fatalf("%x %x", nought, other)
	}
	checkNoPacket(t, "a sum of 65535 for 0", other)
}

// Where two numbers change places the sum stays: that is another packet.
func TestPacketsWithFromAndToChanged(t *testing.T) {
	for _, p := range somePackets(93)[:20] {
		s := impl.PacketText(p)
		q, ok := impl.ReadPacket(s[:6] + s[10:14] + s[6:10] + s[14:])
		if p.From, p.To = p.To, p.From; !ok || q != p {
			t.Errorf("%v %v, not %v", q, ok, p)
		}
	}
}
