package rlp_test

import (
	"encoding/hex"
	"testing"

	"bailiwick/api"
	"bailiwick/rlp"
	"bailiwick/word"
)

// read is the item that a text begins with, as Print tells it, and what stands behind it.
func read(text string) (api.Item, string) {
	switch {
	case len(text) > 1 && text[:2] == `""`:
		return api.Item{}, text[2:]
	case text[0] != '[':
		n := 0
		for n < len(text) && text[n] != ',' && text[n] != ']' {
			n++
		}
		return api.Item{B: unhex(text[:n])}, text[n:]
	case text[1] == ']':
		return list(), text[2:]
	}
	out := list()
	for text[0] != ']' {
		var x api.Item
		x, text = read(text[1:])
		out.L = append(out.L, x)
	}
	return out, text[1:]
}

// Pinned answers, made by a second program: an item as a text, and its bytes.
func TestP12_1Answers(t *testing.T) {
	for _, x := range []struct{ text, bytes string }{
		{`""`, "80"},
		{`00`, "00"},
		{`01`, "01"},
		{`0f`, "0f"},
		{`7f`, "7f"},
		{`80`, "8180"},
		{`ff`, "81ff"},
		{`0400`, "820400"},
		{`0000`, "820000"},
		{`646f67`, "83646f67"},
		{`[]`, "c0"},
		{`[636174,646f67]`, "c88363617483646f67"},
		{`[[],[[]],[[],[[]]]]`, "c7c0c1c0c3c0c1c0"},
		{`[[[],[]],[]]`, "c4c2c0c0c0"},
		{`[""]`, "c180"},
		{`["",""]`, "c28080"},
		{`[[""]]`, "c2c180"},
		{`[00]`, "c100"},
		{`[80]`, "c28180"},
		{`[7a77,[04],01]`, "c6827a77c10401"},
		{`4c6f72656d20697073756d20646f6c6f722073697420616d65742c20636f6e7365637465747572206164697069736963696e6720656c6974`, "b8384c6f72656d20697073756d20646f6c6f722073697420616d65742c20636f6e7365637465747572206164697069736963696e6720656c6974"},
		{`61616161616161616161616161616161616161616161616161616161616161616161616161616161616161616161616161616161616161`, "b761616161616161616161616161616161616161616161616161616161616161616161616161616161616161616161616161616161616161"},
		{`6161616161616161616161616161616161616161616161616161616161616161616161616161616161616161616161616161616161616161`, "b8386161616161616161616161616161616161616161616161616161616161616161616161616161616161616161616161616161616161616161"},
		{`[61,61,61,61,61,61,61,61,61,61,61,61,61,61,61,61,61,61,61,61,61,61,61,61,61,61,61,61,61,61,61,61,61,61,61,61,61,61,61,61,61,61,61,61,61,61,61,61,61,61,61,61,61,61,61]`, "f761616161616161616161616161616161616161616161616161616161616161616161616161616161616161616161616161616161616161"},
		{`[61,61,61,61,61,61,61,61,61,61,61,61,61,61,61,61,61,61,61,61,61,61,61,61,61,61,61,61,61,61,61,61,61,61,61,61,61,61,61,61,61,61,61,61,61,61,61,61,61,61,61,61,61,61,61,61]`, "f8386161616161616161616161616161616161616161616161616161616161616161616161616161616161616161616161616161616161616161"},
		{`[aaaaaaaaaaaaaaaaaaaaaaaaaaaaaaaaaaaaaaaaaaaaaaaaaaaaaaaaaaaaaaaaaaaaaaaaaaaaaaaaaaaaaaaaaaaaaaaaaaaaaaaaaaaa]`, "f7b6aaaaaaaaaaaaaaaaaaaaaaaaaaaaaaaaaaaaaaaaaaaaaaaaaaaaaaaaaaaaaaaaaaaaaaaaaaaaaaaaaaaaaaaaaaaaaaaaaaaaaaaaaaaa"},
		{`[aaaaaaaaaaaaaaaaaaaaaaaaaaaaaaaaaaaaaaaaaaaaaaaaaaaaaaaaaaaaaaaaaaaaaaaaaaaaaaaaaaaaaaaaaaaaaaaaaaaaaaaaaaaaaa]`, "f838b7aaaaaaaaaaaaaaaaaaaaaaaaaaaaaaaaaaaaaaaaaaaaaaaaaaaaaaaaaaaaaaaaaaaaaaaaaaaaaaaaaaaaaaaaaaaaaaaaaaaaaaaaaaaaaa"},
		{`[61736466,71776572,7a786376,61736466,71776572,7a786376,61736466,71776572,7a786376,61736466,71776572]`, "f784617364668471776572847a78637684617364668471776572847a78637684617364668471776572847a78637684617364668471776572"},
		{`[[61736466,71776572,7a786376],[61736466,71776572,7a786376],[61736466,71776572,7a786376],[61736466,71776572,7a786376]]`, "f840cf84617364668471776572847a786376cf84617364668471776572847a786376cf84617364668471776572847a786376cf84617364668471776572847a786376"},
		{`[[],[[734480fd17dbba92d190c7a44b408410c1d3d986add0c2fcc4cc5d5669823889,[]],[[9f,0c9d],64],615e9f],[]]`, "f2c0efe2a0734480fd17dbba92d190c7a44b408410c1d3d986add0c2fcc4cc5d5669823889c0c7c5819f820c9d6483615e9fc0"},
		{`[[["",[96efb6c6d40e8e0a4ffbbb34dacfbf2442b21f7637d82b1c047f0f390e74f369,acd8a17bc82cac1eb948983ef8458e0665753ff7dfaecfa2adc3f8af63b92076,c58840e18e],343dfc58b94f8dc1ab9ebfb5a9eb2458cc68a5bb],[cb15a82533],[[]]]]`, "f86df86bf86080f848a096efb6c6d40e8e0a4ffbbb34dacfbf2442b21f7637d82b1c047f0f390e74f369a0acd8a17bc82cac1eb948983ef8458e0665753ff7dfaecfa2adc3f8af63b9207685c58840e18e94343dfc58b94f8dc1ab9ebfb5a9eb2458cc68a5bbc685cb15a82533c1c0"},
		{`[[f5,[[ac614556f1e54f3a67d26d5a8324a7f0e62edec8,565b,2b]],[[16,f1f8,51,eb]],[[4a8c7e858028c9538b0fda15e64066de5d1f09043e48ce996a2de02c59972353],[],[],05]],869bb73c56]`, "f854f84c81f5dad994ac614556f1e54f3a67d26d5a8324a7f0e62edec882565b2bc8c71682f1f85181ebe5e1a04a8c7e858028c9538b0fda15e64066de5d1f09043e48ce996a2de02c59972353c0c00585869bb73c56"},
		{`[[],[[[3736a78c75,83f5f4ae02],035075e0ffc9c5222f50e456e59f9878180164a1,[594521d343,a8,03a3ec8db5269eadaf0a37acd87888631ed44569,""]],[""],[2dbc6b58de]],[],[[fe,[],9c],[],[],[]]]`, "f85ac0f84cf841cc853736a78c758583f5f4ae0294035075e0ffc9c5222f50e456e59f9878180164a1de85594521d34381a89403a3ec8db5269eadaf0a37acd87888631ed4456980c180c6852dbc6b58dec0c9c581fec0819cc0c0c0"},
		{`[[],[[[14,331ef1d89ef6fedb7cf3cf436403eea85777f68f256a4b5d0b57fcda72d2df53],fea358e059,7e]]]`, "edc0ebeae214a0331ef1d89ef6fedb7cf3cf436403eea85777f68f256a4b5d0b57fcda72d2df5385fea358e0597e"},
		{`[[[[21023e3c104a641f0d3fddc4e00fe4c4165ab31e,cc35,8fc160],[7d37506afa],[3a]],[],[[3ec4fedd1c,4a88,e53ca99200687ad7402c13cf0e8c9d764c1605e4f416b13205598efb5b44fabf]]],[[],[[d6a0,71,f145ca],[74]],49d6,31],487da5d567de585f7e879d94eb83fd408a4b657565a605053cebea59bff23d9c]`, "f889f854e6dc9421023e3c104a641f0d3fddc4e00fe4c4165ab31e82cc35838fc160c6857d37506afac13ac0ebea853ec4fedd1c824a88a0e53ca99200687ad7402c13cf0e8c9d764c1605e4f416b13205598efb5b44fabfd1c0cbc882d6a07183f145cac1748249d631a0487da5d567de585f7e879d94eb83fd408a4b657565a605053cebea59bff23d9c"},
		{`[11,[[[f5],[5b,9e36383796,38b334085fabb39692696652de9d384ad55c58c7e8c942f54907a00e4619bf68]]],[[279537,32,[fe,9e488a259c8f5de45804a9327863fc44b94c19f4,3f73c4,3d]],7c,[]],e85f]`, "f85811edecc281f5e85b859e36383796a038b334085fabb39692696652de9d384ad55c58c7e8c942f54907a00e4619bf68e5e28327953732dc81fe949e488a259c8f5de45804a9327863fc44b94c19f4833f73c43d7cc082e85f"},
		{`[[[[0b23,b5]]],[[[""],4f8e2db31b06a6fc22c0422f8587b0ee3a9d5439959ce14d0f8c365322dbecd7],""],[90c086185a0b169cf72b4b4222aabc83a98ec8c7],6cda95]`, "f848c7c6c5820b2381b5e5e3c180a04f8e2db31b06a6fc22c0422f8587b0ee3a9d5439959ce14d0f8c365322dbecd780d59490c086185a0b169cf72b4b4222aabc83a98ec8c7836cda95"},
		{`[[[["",24,47],"",["",b422b347699e934e2eaa349b5c80665710e0c4f0,cef3,05ba49],15]],[b3a5,[da83]],[df81ae]]`, "f3e5e4c380244780dd8094b422b347699e934e2eaa349b5c80665710e0c4f082cef38305ba4915c782b3a5c382da83c483df81ae"},
		{`[[3454cdd53125698ca393f3f7a8d657757fac890d,[3456,8286,[]],e52fee],[[127634,[07ea929fd8dfb50a050842129057cd7036191dfaf38335f3343a466bf481b8bb],[fd48d28e45c28f2252172f01fe2a6559fff5059667a82d0c9c004f8d2a6f0531],[21,ae350e]]],[20]]`, "f876e1943454cdd53125698ca393f3f7a8d657757fac890dc7823456828286c083e52feef850f84e83127634e1a007ea929fd8dfb50a050842129057cd7036191dfaf38335f3343a466bf481b8bbe1a0fd48d28e45c28f2252172f01fe2a6559fff5059667a82d0c9c004f8d2a6f0531c52183ae350ec120"},
		{`[[],[[[957460],[ca4060e7bffa242f663c3d2f5a8857178b8321d88759c76a4d852499826a5720,e47a1c3bd3]]]]`, "f0c0eeedc483957460e7a0ca4060e7bffa242f663c3d2f5a8857178b8321d88759c76a4d852499826a572085e47a1c3bd3"},
		{`[[[[56],["",6c,dab2ab],a702,a4029a77aa9a0d23e42839ad388fd94dc16892691be50352ed671ce018a248d1],[]],[[[98426d3d4b6cb246fa2751ccf88b1dc3f868abdecf6e89dbac0e82d08ae6fc66,ea,""],21d89c5461edcfcdcd5e968fce7e551c6b3654e6,[35367d3229fca6e30a10f84586ef951ae593df24],[b7,f839c5]],[],[]]]`, "f88defedc156c6806c83dab2ab82a702a0a4029a77aa9a0d23e42839ad388fd94dc16892691be50352ed671ce018a248d1c0f85bf857e4a098426d3d4b6cb246fa2751ccf88b1dc3f868abdecf6e89dbac0e82d08ae6fc6681ea809421d89c5461edcfcdcd5e968fce7e551c6b3654e6d59435367d3229fca6e30a10f84586ef951ae593df24c681b783f839c5c0c0"},
	} {
		item, _ := read(x.text)
		b := unhex(x.bytes)
		encoded(t, item, b, x.text)
		decoded(t, b, item, len(b), x.text)
		printed(t, item, x.text)
		same(t, "Same", rlp.Same(item, list(item).L[0]), true, x.text)
	}
}

// Pinned heads, made by a second program: of so many bytes, and of the list in which these stand alone, if it can be.
func TestP12_1Heads(t *testing.T) {
	for _, x := range []struct {
		size       int
		text, list string
	}{
		{0, "80", "c1"},
		{2, "82", "c3"},
		{54, "b6", "f7"},
		{55, "b7", "f838"},
		{56, "b838", "f83a"},
		{57, "b839", "f83b"},
		{127, "b87f", "f881"},
		{128, "b880", "f882"},
		{255, "b8ff", "f90101"},
		{256, "b90100", "f90103"},
		{257, "b90101", "f90104"},
		{4096, "b91000", "f91003"},
		{65535, "b9ffff", "fa010002"},
		{65536, "ba010000", "fa010004"},
		{65537, "ba010001", "fa010005"},
		{524288, "ba080000", "fa080004"},
		{1048571, "ba0ffffb", ""},
		{1048572, "ba0ffffc", ""},
	} {
		item := long(x.size)
		got := bytesOf(t, item)
		same(t, "the head", hex.EncodeToString(got[:len(got)-x.size]), x.text, x.size)
		equal(t, "the bytes", got[len(got)-x.size:], item.B, x.size)
		if x.list == "" {
			tooMuch(t, list(item), x.size)
			continue
		}
		all := bytesOf(t, list(item))
		same(t, "the list's head", hex.EncodeToString(all[:len(all)-len(got)]), x.list, x.size)
		equal(t, "the list's bytes", all[len(all)-len(got):], got, x.size)
	}
}

// The chapter's examples.
func TestP12_1Examples(t *testing.T) {
	x := rlp.List(rlp.Text([]byte("cat")), rlp.Text([]byte("dog")))
	encoded(t, x, unhex("c8 83 63 61 74 83 64 6f 67"), `"cat", "dog"`)
	encoded(t, rlp.Number(word.Of(1024)), unhex("82 04 00"), 1024)
}
