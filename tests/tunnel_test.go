package tests

import (
	"encoding/binary"
	"hash/crc32"
	"math/bits"
	"math/rand"
	"slices"
	"testing"

	"loop.example/g00272/impl"
)

const topNonce = 1 << 40

// paperKey is the key of the known answer in the cipher's paper.
const paperKey = "\x1b\x1a\x19\x18\x13\x12\x11\x10\x0b\x0a\x09\x08\x03\x02\x01\x00"

func zeroKey() string { return longText("\x00", impl.KeySize) }

func fullKey() string { return longText("\xff", impl.KeySize) }

// blockIn works the cipher out as its paper tells it: lists of words that grow, and round keys from them.
func blockIn(key string, block uint64) uint64 {
	var word [4]uint32
	for i := range word {
		word[3-i] = binary.BigEndian.Uint32([]byte(key[4*i:]))
	}
	k, l := []uint32{word[0]}, []uint32{word[1], word[2], word[3]}
	for i := range 26 {
		l = append(l, (k[i]+bits.RotateLeft32(l[i], -8))^uint32(i))
		k = append(k, bits.RotateLeft32(k[i], 3)^l[i+3])
	}
	x, y := uint32(block>>32), uint32(block)
	for _, key := range k {
		x = (bits.RotateLeft32(x, -8) + y) ^ key
		y = bits.RotateLeft32(y, 3) ^ x
	}
	return uint64(x)<<32 | uint64(y)
}

func streamIn(key string, nonce int64, n int) string {
	var out []byte
	for i := range uint64(n+7) / 8 {
		out = binary.BigEndian.AppendUint64(out, blockIn(key, uint64(nonce)*1024+i))
	}
	return string(out[:n])
}

// sealedIn seals whatever it is given, so that it also makes records of what can not be sealed.
func sealedIn(key string, nonce int64, body string) string {
	front := binary.BigEndian.AppendUint64(nil, uint64(nonce))[2:]
	for i, b := range []byte(streamIn(key, nonce, len(body))) {
		front = append(front, b^body[i])
	}
	return string(binary.LittleEndian.AppendUint32(front, crc32.ChecksumIEEE(front)))
}

func someKey(r *rand.Rand) string { return someBytes(r, impl.KeySize) }

// wrongKeys are too short or too long.
func wrongKeys() []string {
	return []string{"", "short", paperKey[:15], paperKey[1:], paperKey + "\x00", "\x00" + paperKey, paperKey + paperKey, longText("k", 100000)}
}

func TestKnownBlocks(t *testing.T) {
	for _, known := range []struct {
		key   string
		block int64
		want  uint64
	}{
		{paperKey, 0x3b7265747475432d, 0x8c6fa548454e028b},
		{paperKey, 0, 0x77ad972ab1f1af49},
		{paperKey, 1, 0x54a7bb6f2788f6c9},
		{paperKey, highest, 0xfc69cc180979992a},
		{zeroKey(), 0, 0x680448d5272f692c},
		{fullKey(), 0, 0xd5498d3fe9e74226},
		{fullKey(), highest, 0xf2eeec6781abb1cc},
		{"\x00\x01\x02\x03\x04\x05\x06\x07\x08\x09\x0a\x0b\x0c\x0d\x0e\x0f", 264192, 0x57166c522eb9c504},
	} {
		if got := uint64(impl.BlockOf(known.key, known.block)); got != known.want {
			t.Errorf("BlockOf(%x, %x) = %x, not %x", known.key, known.block, got, known.want)
		}
	}
}

func TestBlocksByThePaper(t *testing.T) {
	r := rand.New(rand.NewSource(110))
	asked := []int64{0, 1, 2, 1 << 31, 1<<32 - 1, 1 << 32, 1<<32 + 1, 1 << 62, highest - 1, highest}
	for range 300 {
		key := pick(r, []string{zeroKey(), fullKey(), someKey(r), someKey(r)})
		for _, block := range append(asked, r.Int63(), r.Int63n(1<<50)) {
			if got, want := uint64(impl.BlockOf(key, block)), blockIn(key, uint64(block)); got != want {
				t.Fatalf("BlockOf(%x, %x) = %x, not %x", key, block, got, want)
			}
		}
	}
}

func TestBlocksOfNoKeyOrNoBlock(t *testing.T) {
	for _, key := range wrongKeys() {
		for _, block := range []int64{0, 1, highest, -1} {
			if got := impl.BlockOf(key, block); got != -1 {
				t.Errorf("a key of %d bytes, block %d: %x", len(key), block, got)
			}
		}
	}
	for _, block := range []int64{-1, -2, lowest, lowest + 1} {
		if got := impl.BlockOf(paperKey, block); got != -1 {
			t.Errorf("block %d: %x", block, got)
		}
	}
}

func TestKnownStreams(t *testing.T) {
	for want, asked := range map[string]struct{ nonce, n int64 }{
		"":                                     {0, 0},
		"\x77":                                 {0, 1},
		"\x77\xad\x97\x2a\xb1\xf1\xaf\x49\x54": {0, 9},
		"\x2f\x9b\xd9\xcb\xb8\x06\xe0\x10\x0f\x1c\xbb\x38\x39\x0c\x18\xdd\xb6":             {1, 17},
		"\x26\x34\xf2\x51\xc7\x07\xde\x1f\x33\x56\xba\x61\x96\x3c\xfc\x83\x4d\xce\xe0\x77": {258, 20},
		"\xf4\xb8\xa3\x10\x3c\x3a\x6c\x44\x8f":                                             {topNonce, 9},
	} {
		if got, ok := impl.Stream(paperKey, asked.nonce, asked.n); !ok || got != want {
			t.Errorf("Stream(%d, %d) = %x %v, not %x", asked.nonce, asked.n, got, ok, want)
		}
	}
}

func TestStreamsAreBlocksOneBehindTheOther(t *testing.T) {
	r := rand.New(rand.NewSource(111))
	for _, nonce := range []int64{0, 1, 2, 1023, 1024, topNonce - 1, topNonce, r.Int63n(topNonce)} {
		key := pick(r, []string{paperKey, zeroKey(), someKey(r)})
		for _, n := range []int{0, 1, 7, 8, 9, 15, 16, 17, 200, 992, 993, 999, 1000} {
			got, ok := impl.Stream(key, nonce, int64(n))
			if !ok || got != streamIn(key, nonce, n) {
				t.Errorf("%x, nonce %d, %d bytes: %x %v", key, nonce, n, got, ok)
			}
			if ok && n >= 16 && int64(binary.BigEndian.Uint64([]byte(got[8:]))) != impl.BlockOf(key, nonce*1024+1) {
				t.Errorf("nonce %d: the second block is another", nonce)
			}
		}
	}
}

func TestStreamsThatThereAreNot(t *testing.T) {
	refused := func(key string, nonce int64, n int64) {
		t.Helper()
		if got, ok := impl.Stream(key, nonce, n); ok || got != "" {
			t.Errorf("a key of %d bytes, nonce %d, %d bytes: %x %v", len(key), nonce, n, got, ok)
		}
	}
	for _, key := range wrongKeys() {
		refused(key, 0, 0)
		refused(key, 7, 8)
	}
	for _, nonce := range []int64{-1, topNonce + 1, topNonce + 2, lowest, highest, 1 << 53, 1 << 54} {
		refused(paperKey, nonce, 0)
		refused(paperKey, nonce, 8)
	}
	for _, n := range []int64{-1, 1001, 1002, lowest, highest} {
		refused(paperKey, 0, n)
		refused(paperKey, topNonce, n)
	}
}

func TestSealedByteByByte(t *testing.T) {
	for want, given := range map[string]struct {
		nonce int64
		body  string
	}{
		// Six bytes 0 have the CRC-32 b1c2a1a3.
		"\x00\x00\x00\x00\x00\x00\xa3\xa1\xc2\xb1": {0, ""},
		// A body of noughts shows the stream.
		"\x00\x00\x00\x00\x00\x00\x77\xad\x97\x2a\xb1\xf1\xaf\x49\xb4\x2b\x17\xed":     {0, "\x00\x00\x00\x00\x00\x00\x00\x00"},
		"\x00\x00\x00\x00\x01\x02\x4e\x51\x9e\x3d\xa8\x22\x63\x22\x51":                 {258, "hello"},
		"\x00\x00\x00\x00\x00\x01\x1e\xa9\xea\xff\x8d\x30\xd7\x28\x36\x0c\xcb\x79\x09": {1, "123456789"},
		"\x01\x00\x00\x00\x00\x00\xc5\x8a\x90\x24\x09\x0c\x5b\x7c\xbf\xf4\x5d\x0f":     {topNonce, "12345678"},
	} {
		if got, ok := impl.Sealed(paperKey, given.nonce, given.body); !ok || got != want {
			t.Errorf("Sealed(%d, %q) = %x %v, not %x", given.nonce, given.body, got, ok, want)
		}
		if nonce, body, ok := impl.Opened(paperKey, want); !ok || nonce != given.nonce || body != given.body {
			t.Errorf("Opened(%x) = %d %q %v", want, nonce, body, ok)
		}
	}
}

// The first half of promise 9, for a body of each length.
func TestWhatWasSealedIsOpened(t *testing.T) {
	r := rand.New(rand.NewSource(112))
	for size := range impl.MaxBody + 1 {
		for _, nonce := range []int64{0, 1, topNonce - 1, topNonce, r.Int63n(topNonce)} {
			key, body := pick(r, []string{paperKey, someKey(r)}), someBytes(r, size)
			record, ok := impl.Sealed(key, nonce, body)
			if !ok || record != sealedIn(key, nonce, body) {
				t.Fatalf("Sealed(%x, %d, %x) = %x %v", key, nonce, body, record, ok)
			}
			if n, b, ok := impl.Opened(key, record); !ok || n != nonce || b != body {
				t.Errorf("%x, %d, %x: opened %d %x %v", key, nonce, body, n, b, ok)
			}
		}
	}
}

func TestWhatCanNotBeSealed(t *testing.T) {
	refused := func(key string, nonce int64, body string) {
		t.Helper()
		if got, ok := impl.Sealed(key, nonce, body); ok || got != "" {
			t.Errorf("a key of %d bytes, nonce %d, a body of %d: %x %v", len(key), nonce, len(body), got, ok)
		}
	}
	for _, key := range wrongKeys() {
		refused(key, 0, "")
		refused(key, 5, "body")
	}
	for _, nonce := range []int64{-1, topNonce + 1, 1 << 48, 1<<48 + 5, lowest, highest} {
		refused(paperKey, nonce, "")
		refused(paperKey, nonce, "body")
	}
	for _, size := range []int{impl.MaxBody + 1, impl.MaxBody + 2, 1000, 1001, 100000} {
		refused(paperKey, 0, longText("b", size))
	}
}

func checkNotOpened(t *testing.T, what string, key string, record string) {
	t.Helper()
	if n, body, ok := impl.Opened(key, record); ok || n != 0 || body != "" {
		t.Errorf("%s: Opened(%x, %x) = %d %q %v", what, key, record, n, body, ok)
	}
}

// someRecords have bodies of some lengths, the least and the greatest among them.
func someRecords(r *rand.Rand) []string {
	var out []string
	for _, size := range []int{0, 1, 2, 7, 8, 9, 100, impl.MaxBody} {
		for _, nonce := range []int64{0, 1, topNonce - 1, topNonce, r.Int63n(topNonce)} {
			out = append(out, sealedIn(paperKey, nonce, someBytes(r, size)))
		}
	}
	return out
}

// The second half of promise 9.
func TestNothingIsOpenedWithOneBitTurnedOver(t *testing.T) {
	for _, record := range someRecords(rand.New(rand.NewSource(113))) {
		for bit := range 8 * len(record) {
			turned := []byte(record)
			turned[bit/8] ^= 1 << (bit % 8)
			checkNotOpened(t, "a bit turned over", paperKey, string(turned))
		}
	}
}

func TestRecordsThatAreCutOrLonger(t *testing.T) {
	r := rand.New(rand.NewSource(114))
	for _, record := range someRecords(r) {
		for end := range len(record) {
			checkNotOpened(t, "cut", paperKey, record[:end])
		}
		for more := range 256 {
			checkNotOpened(t, "one more", paperKey, record+string([]byte{byte(more)}))
		}
		for _, more := range []string{"\x00\x00", "\x00\x00\x00\x00", "\xff\xff\xff\xff", someBytes(r, 300), record} {
			checkNotOpened(t, "more behind it", paperKey, record+more)
		}
		checkNotOpened(t, "one ahead", paperKey, "\x01"+record)
	}
	for size := range 10 {
		checkNotOpened(t, "too short", paperKey, longText("\x00", size))
		checkNotOpened(t, "too short", paperKey, longText("\xff", size))
	}
}

// The CRC-32 holds in each of these, but Sealed makes none of them.
func TestRecordsWhoseSumAloneIsRight(t *testing.T) {
	if n, body, ok := impl.Opened(paperKey, sealedIn(paperKey, topNonce, longText("b", impl.MaxBody))); !ok || n != topNonce || len(body) != impl.MaxBody {
		t.Fatal(n, body, ok)
	}
	for _, nonce := range []int64{topNonce + 1, topNonce + 2, topNonce << 1, 1<<48 - 1} {
		checkNotOpened(t, "nonce", paperKey, sealedIn(paperKey, nonce, ""))
		checkNotOpened(t, "nonce", paperKey, sealedIn(paperKey, nonce, "body"))
	}
	for _, size := range []int{impl.MaxBody + 1, impl.MaxBody + 2, 1000, 1001, 5000} {
		checkNotOpened(t, "too long a body", paperKey, sealedIn(paperKey, 1, longText("b", size)))
	}
	// A text shorter than nonce and CRC-32, with the CRC-32 of what stands ahead of it.
	for size := range 6 {
		front := []byte(longText("\x00", size))
		checkNotOpened(t, "no nonce", paperKey, string(binary.LittleEndian.AppendUint32(front, crc32.ChecksumIEEE(front))))
	}
	front := []byte(sealedIn(paperKey, 1, "body")[:10])
	checkNotOpened(t, "the highest byte first", paperKey, string(binary.BigEndian.AppendUint32(front, crc32.ChecksumIEEE(front))))
	for _, key := range wrongKeys() {
		checkNotOpened(t, "key", key, sealedIn(paperKey, 1, "body"))
		checkNotOpened(t, "key", key, sealedIn(paperKey, 0, ""))
	}
}

// With another key, too, Sealed makes this record: of another body.
func TestRecordsOpenedWithAnotherKey(t *testing.T) {
	record := sealedIn(paperKey, 77, "a body")
	n, body, ok := impl.Opened(zeroKey(), record)
	if !ok || n != 77 || len(body) != 6 || body == "a body" {
		t.Fatal(n, body, ok)
	}
	if again, ok := impl.Sealed(zeroKey(), n, body); !ok || again != record {
		t.Errorf("%x", again)
	}
}

func TestEachKeyAndNonceSealsOtherwise(t *testing.T) {
	var all []string
	body := longText("\x00", 16)
	for at := range 8 * impl.KeySize {
		key := []byte(paperKey)
		key[at/8] ^= 1 << (at % 8)
		record, _ := impl.Sealed(string(key), 5, body)
		all = append(all, record[6:22])
	}
	for nonce := range int64(100) {
		record, _ := impl.Sealed(paperKey, nonce, body)
		all = append(all, record[6:22])
	}
	if slices.Sort(all); len(slices.Compact(all)) != 8*impl.KeySize+100 {
		t.Error("two are alike")
	}
}
