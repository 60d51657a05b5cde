package nibble_test

import (
	"testing"

	"bailiwick/api"
	"bailiwick/nibble"
)

// Pinned answers, made by a second program: nibbles, their path, and the path of a leaf.
func TestP13_2Answers(t *testing.T) {
	for _, x := range []struct{ nibbles, path, leaf string }{
		{"", "00", "20"},
		{"8", "18", "38"},
		{"95", "0095", "2095"},
		{"747", "1747", "3747"},
		{"5426", "005426", "205426"},
		{"90d40", "190d40", "390d40"},
		{"8428ed", "008428ed", "208428ed"},
		{"48b7fdb", "148b7fdb", "348b7fdb"},
		{"da3b8e4e", "00da3b8e4e", "20da3b8e4e"},
		{"e5965b8be88c4f7", "1e5965b8be88c4f7", "3e5965b8be88c4f7"},
		{"76b42dec0d174fe8", "0076b42dec0d174fe8", "2076b42dec0d174fe8"},
		{"5d8b6b47f611ba59653752d1ea20493", "15d8b6b47f611ba59653752d1ea20493", "35d8b6b47f611ba59653752d1ea20493"},
		{"d982fb10aa4ff7691c548d68d7b79d6b", "00d982fb10aa4ff7691c548d68d7b79d6b", "20d982fb10aa4ff7691c548d68d7b79d6b"},
		{"d1ace221096efca19d4413b5699c91b43bfed1b", "1d1ace221096efca19d4413b5699c91b43bfed1b", "3d1ace221096efca19d4413b5699c91b43bfed1b"},
		{"941a540742fb2b86177e6c1134bc94982b105038", "00941a540742fb2b86177e6c1134bc94982b105038", "20941a540742fb2b86177e6c1134bc94982b105038"},
		{"2ad591339ccfc844e90088a77bd5fd84ee6cf601f5430492f16d004941d87f0", "12ad591339ccfc844e90088a77bd5fd84ee6cf601f5430492f16d004941d87f0", "32ad591339ccfc844e90088a77bd5fd84ee6cf601f5430492f16d004941d87f0"},
		{"37a0ea71d703b4eb4b79284453140ebcfd2e8ac36ac2fd90ecdf128604a96d90", "0037a0ea71d703b4eb4b79284453140ebcfd2e8ac36ac2fd90ecdf128604a96d90", "2037a0ea71d703b4eb4b79284453140ebcfd2e8ac36ac2fd90ecdf128604a96d90"},
		{"62342c6a5055117d5d2f431b152d9d9789d98632513847933fe31d4f7fab30f23", "162342c6a5055117d5d2f431b152d9d9789d98632513847933fe31d4f7fab30f23", "362342c6a5055117d5d2f431b152d9d9789d98632513847933fe31d4f7fab30f23"},
		{"12345", "112345", "312345"},
		{"012345", "00012345", "20012345"},
		{"0f1cb8", "000f1cb8", "200f1cb8"},
		{"f1cb8", "1f1cb8", "3f1cb8"},
		{"0", "10", "30"},
		{"f", "1f", "3f"},
		{"00", "0000", "2000"},
		{"000", "1000", "3000"},
		{"123", "1123", "3123"},
		{"12", "0012", "2012"},
	} {
		n := each(x.nibbles)
		for leaf, want := range map[bool]string{false: x.path, true: x.leaf} {
			b, e := nibble.Pack(n, leaf)
			same(t, "Pack's error", e, api.OK, x.nibbles, leaf)
			equal(t, "Pack", b, unhex(want), x.nibbles, leaf)
			got, is, e := nibble.Unpack(unhex(want))
			same(t, "Unpack's error", e, api.OK, want)
			same(t, "whether Unpack tells a leaf", is, leaf, want)
			equal(t, "Unpack", got, n, want)
		}
	}
}

// Nibbles by hand.
func TestP13_1Answers(t *testing.T) {
	for _, x := range []struct{ bytes, nibbles string }{
		{"", ""},
		{"00", "00 00"},
		{"01", "00 01"},
		{"10", "01 00"},
		{"0f", "00 0f"},
		{"f0", "0f 00"},
		{"ff", "0f 0f"},
		{"a5", "0a 05"},
		{"0123", "00 01 02 03"},
		{"6b6579", "06 0b 06 05 07 09"},
		{"deadbeef", "0d 0e 0a 0d 0b 0e 0e 0f"},
	} {
		equal(t, "Of", nibble.Of(unhex(x.bytes)), unhex(x.nibbles), x.bytes)
		b, e := nibble.Bytes(unhex(x.nibbles))
		same(t, "the error of Bytes", e, api.OK, x.nibbles)
		equal(t, "Bytes", b, unhex(x.bytes), x.nibbles)
	}
}
