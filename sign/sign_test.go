package sign_test

import (
	"crypto/hmac"
	"crypto/md5"
	"fmt"
	"math"
	"math/rand"
	"slices"
	"strings"
	"testing"

	"tipstaff/api"
	"tipstaff/octet"
	"tipstaff/packet"
	"tipstaff/sign"
)

const (
	auth   = "0123456789abcdef"
	other  = "fedcba9876543210"
	secret = "xyzzy5461"
)

// anySecrets are secrets as long as those that servers have, and edges of what a block of the digest holds.
var anySecrets = []string{"", "x", secret, "\x00", "gr\u00fcn", "\xff\x80", text(55), text(56), text(63), text(64), text(65), text(119), text(5000)}

// wrongAuths are no authenticators.
var wrongAuths = []string{"", "x", auth[1:], auth + "x", auth + auth, strings.Repeat("\u00fc", 16), text(256 + 16)}

func text(n int) string { return strings.Repeat("x", n) }

func zeros(n int) string { return strings.Repeat("\x00", n) }

// told answers what v is, no longer than is of use.
func told(v any) string { return fmt.Sprintf("%.400s", fmt.Sprintf("%#v", v)) }

func unhexed(t *testing.T, s string) string {
	t.Helper()
	out, e := octet.Unhex(strings.ReplaceAll(s, " ", ""))
	if e != api.OK {
		t.Fatalf("Unhex(%q): %d", s, e)
	}
	return out
}

// turnedBit answers s with one of its bits turned.
func turnedBit(s string, bit int) string {
	out := []byte(s)
	out[bit/8] ^= 1 << (bit % 8)
	return string(out)
}

// plain answers a packet that is right, with those attributes.
func plain(l ...api.Attr) api.Packet {
	return api.Packet{Code: api.CodeAccept, Id: 7, Auth: auth, Attrs: l}
}

func message(value string) api.Attr { return api.Attr{Type: api.AttrMessage, Value: value} }

// many answers n attributes of type 7, without bytes.
func many(n int) []api.Attr { return slices.Repeat([]api.Attr{{Type: 7}}, n) }

// weighing answers attributes that have n bytes when they are written: n is 2 or above, and not one above a multiple of 255.
func weighing(n int) []api.Attr {
	l := []api.Attr{}
	for n > 0 {
		one := min(n, 255)
		l = append(l, api.Attr{Type: 8, Value: text(one - 2)})
		n -= one
	}
	return l
}

func alike(a, b api.Packet) bool {
	return a.Code == b.Code && a.Id == b.Id && a.Auth == b.Auth && slices.Equal(a.Attrs, b.Attrs)
}

func drawnText(r *rand.Rand, long int) string {
	out := make([]byte, long)
	r.Read(out)
	return string(out)
}

// drawn answers a packet that is right, with as many AttrMessages as told, of any length, among other attributes.
func drawn(r *rand.Rand, messages int) api.Packet {
	l := make([]api.Attr, r.Intn(20))
	for i := range l {
		l[i] = api.Attr{Type: 1 + r.Intn(79), Value: drawnText(r, r.Intn(60))}
	}
	for range messages {
		l = slices.Insert(l, r.Intn(len(l)+1), message(drawnText(r, r.Intn(40))))
	}
	return api.Packet{Code: 1 + r.Intn(255), Id: r.Intn(256), Auth: drawnText(r, 16), Attrs: l}
}

// written are p's bytes, told anew; p is right, but for its Auth.
func written(p api.Packet, auth string) string {
	attrs := ""
	for _, a := range p.Attrs {
		attrs += string([]byte{byte(a.Type), byte(len(a.Value) + 2)}) + a.Value
	}
	long := 20 + len(attrs)
	return string([]byte{byte(p.Code), byte(p.Id), byte(long >> 8), byte(long)}) + auth + attrs
}

// withMessage is packet.Put of an AttrMessage, told anew.
func withMessage(p api.Packet, value string) api.Packet {
	l := slices.Clone(p.Attrs)
	for i := range l {
		if l[i].Type == 80 {
			l[i].Value = value
			p.Attrs = l
			return p
		}
	}
	p.Attrs = append(l, message(value))
	return p
}

// libraryMessage and libraryResponse are made by the library's digest, which the program itself may not import.
func libraryMessage(p api.Packet, auth, secret string) string {
	h := hmac.New(md5.New, []byte(secret))
	h.Write([]byte(written(withMessage(p, zeros(16)), auth)))
	return string(h.Sum(nil))
}

func libraryResponse(p api.Packet, auth, secret string) string {
	sum := md5.Sum([]byte(written(p, auth) + secret))
	return string(sum[:])
}

// libraryReply is p, signed with these.
func libraryReply(p api.Packet, auth, secret string) api.Packet {
	p = withMessage(p, libraryMessage(p, auth, secret))
	p.Auth = libraryResponse(p, auth, secret)
	return p
}

// wrongs are packets that are not right, whatever their Auth is, and whatever is put as AttrMessage.
var wrongs = []api.Packet{
	{},
	{Code: 0, Id: 7, Auth: auth},
	{Code: -1, Id: 7, Auth: auth},
	{Code: 256, Id: 7, Auth: auth},
	{Code: math.MaxInt, Id: 7, Auth: auth},
	{Code: math.MinInt, Id: 7, Auth: auth},
	{Code: 2, Id: -1, Auth: auth},
	{Code: 2, Id: 256, Auth: auth},
	{Code: 2, Id: math.MinInt, Auth: auth},
	{Code: 2, Id: 7, Auth: auth, Attrs: []api.Attr{{}}},
	{Code: 2, Id: 7, Auth: auth, Attrs: []api.Attr{{Type: 256}}},
	{Code: 2, Id: 7, Auth: auth, Attrs: []api.Attr{{Type: 256 + 80}}},
	{Code: 2, Id: 7, Auth: auth, Attrs: []api.Attr{{Type: -1, Value: "x"}}},
	{Code: 2, Id: 7, Auth: auth, Attrs: []api.Attr{{Type: 1, Value: text(254)}}},
	{Code: 2, Id: 7, Auth: auth, Attrs: []api.Attr{message(auth), {Type: 1, Value: text(254)}}},
	{Code: 2, Id: 7, Auth: auth, Attrs: []api.Attr{message(auth), message(text(254))}},
	{Code: 2, Id: 7, Auth: auth, Attrs: many(65)},
	{Code: 2, Id: 7, Auth: auth, Attrs: append(many(64), message(auth))},
	{Code: 2, Id: 7, Auth: auth, Attrs: weighing(4077)},
	{Code: 2, Id: 7, Auth: auth, Attrs: append(weighing(4076), message(auth))},
	{Code: 2, Id: 7, Auth: auth, Attrs: weighing(64 * 255)},
}

// fulls are packets that are right, but have no room for an AttrMessage of 16 bytes more.
var fulls = []api.Packet{
	plain(many(64)...),
	plain(weighing(4076)...),
	plain(weighing(4059)...),
	plain(append([]api.Attr{message("")}, weighing(4074)...)...),
	plain(append([]api.Attr{message(text(15))}, weighing(4059)...)...),
}

// roomies are packets that are right, and have just room for it, or plenty.
var roomies = []api.Packet{
	plain(),
	plain([]api.Attr{}...),
	plain(many(63)...),
	plain(weighing(4058)...),
	plain(append([]api.Attr{message(auth)}, weighing(4058)...)...),
	plain(append([]api.Attr{message("")}, weighing(4058)...)...),
	plain(append(many(63), message("x"))...),
	plain(append([]api.Attr{message(text(100))}, weighing(3974)...)...),
	{Code: 1, Id: 0, Auth: zeros(16)},
	{Code: 255, Id: 255, Auth: strings.Repeat("\xff", 16), Attrs: []api.Attr{{Type: 255, Value: text(253)}}},
	plain(message(zeros(16))),
	plain(message(other), api.Attr{Type: 1, Value: "bob"}),
	plain(api.Attr{Type: 1, Value: "bob"}, message(text(253)), api.Attr{Type: 79, Value: "x"}),
	plain(api.Attr{Type: 81, Value: "10"}, api.Attr{Type: 79}),
}

// Examples of RFC 2865 and RFC 5997, whose secret is xyzzy5461.
const (
	telnetAuth  = "0f403f9473978057bd83d5cb98f4227a"
	telnetReply = "02000026 86fe220e7624ba2a1005f6bf9b55e0b2 060600000001 0f0600000000 0e06c0a80103"
	statusAsked = "0cda0026 8a54f4686fb394c52866e302185d0623 5012 5a665e2e1e8411f3e243822097c84fa3"
	statusReply = "02da0014 ef0d552a4bf2d693ec2b6fe8b5411d66"
)

func readOf(t *testing.T, hex string) api.Packet {
	t.Helper()
	p, e := packet.Read(unhexed(t, hex))
	if e != api.OK {
		t.Fatalf("Read(%s): %d", hex, e)
	}
	return p
}

// P11.1

func seeMessage(t *testing.T, p api.Packet, auth, secret, want string, wantE api.Errno) {
	t.Helper()
	if got, e := sign.Message(p, auth, secret); got != want || e != wantE {
		t.Errorf("Message(%s, %q, %.80q): %x, %d, want %x, %d", told(p), auth, secret, got, e, want, wantE)
	}
}

func TestMessageOfExample(t *testing.T) {
	p := readOf(t, statusAsked)
	want := unhexed(t, "5a665e2e1e8411f3e243822097c84fa3")
	seeMessage(t, p, p.Auth, secret, want, api.OK)
	seeMessage(t, withMessage(p, "whatever it was"), p.Auth, secret, want, api.OK)
	seeMessage(t, packet.Without(p, 80), p.Auth, secret, want, api.OK)
	asked := p.Auth
	p.Auth = ""
	seeMessage(t, p, asked, secret, want, api.OK)
}

func TestMessage(t *testing.T) {
	for _, p := range roomies {
		for _, secret := range anySecrets {
			for _, auth := range []string{auth, other, zeros(16), p.Auth} {
				seeMessage(t, p, auth, secret, libraryMessage(p, auth, secret), api.OK)
			}
		}
		for _, own := range wrongAuths { // p's own Auth is not looked at
			q := p
			q.Auth = own
			seeMessage(t, q, other, secret, libraryMessage(p, other, secret), api.OK)
		}
	}
	twice := plain(message("first"), api.Attr{Type: 1}, message("second"))
	seeMessage(t, twice, auth, secret, libraryMessage(twice, auth, secret), api.OK)
	long := plain(message(text(254))) // not right, but with 16 bytes 0 in their place it is
	seeMessage(t, long, auth, secret, libraryMessage(plain(message("")), auth, secret), api.OK)
}

func TestMessageOfWrong(t *testing.T) {
	for _, p := range slices.Concat(wrongs, fulls) {
		for _, secret := range anySecrets {
			seeMessage(t, p, auth, secret, "", api.ErrArg)
			seeMessage(t, p, "", secret, "", api.ErrArg)
		}
	}
	for _, p := range roomies {
		for _, auth := range wrongAuths {
			seeMessage(t, p, auth, secret, "", api.ErrArg)
		}
	}
}

func TestMessageOfDrawn(t *testing.T) {
	r := rand.New(rand.NewSource(1))
	for i := range 2000 {
		p, auth, secret := drawn(r, i%3), drawnText(r, 16), drawnText(r, r.Intn(100))
		seeMessage(t, p, auth, secret, libraryMessage(p, auth, secret), api.OK)
	}
}

// P11.2

func seeResponse(t *testing.T, p api.Packet, auth, secret, want string, wantE api.Errno) {
	t.Helper()
	if got, e := sign.Response(p, auth, secret); got != want || e != wantE {
		t.Errorf("Response(%s, %q, %.80q): %x, %d, want %x, %d", told(p), auth, secret, got, e, want, wantE)
	}
}

func TestResponseOfExamples(t *testing.T) {
	for _, c := range []struct{ asked, reply string }{
		{telnetAuth, telnetReply},
		{statusAsked[9:41], statusReply},
	} {
		p := readOf(t, c.reply)
		seeResponse(t, p, unhexed(t, c.asked), secret, p.Auth, api.OK)
	}
}

func TestResponse(t *testing.T) {
	for _, p := range slices.Concat(roomies, fulls) {
		for _, secret := range anySecrets {
			for _, auth := range []string{auth, other, zeros(16), p.Auth} {
				seeResponse(t, p, auth, secret, libraryResponse(p, auth, secret), api.OK)
			}
		}
		for _, own := range wrongAuths { // p's own Auth is not looked at
			q := p
			q.Auth = own
			seeResponse(t, q, other, secret, libraryResponse(p, other, secret), api.OK)
		}
	}
	seeResponse(t, plain(message("first"), message("second")), auth, secret, libraryResponse(plain(message("first"), message("second")), auth, secret), api.OK)
}

func TestResponseOfWrong(t *testing.T) {
	for _, p := range slices.Concat(wrongs, []api.Packet{plain(message(text(254)))}) {
		for _, secret := range anySecrets {
			seeResponse(t, p, auth, secret, "", api.ErrArg)
			seeResponse(t, p, "", secret, "", api.ErrArg)
		}
	}
	for _, p := range roomies {
		for _, auth := range wrongAuths {
			seeResponse(t, p, auth, secret, "", api.ErrArg)
		}
	}
}

func TestResponseOfDrawn(t *testing.T) {
	r := rand.New(rand.NewSource(2))
	for i := range 2000 {
		p, auth, secret := drawn(r, i%3), drawnText(r, 16), drawnText(r, r.Intn(100))
		seeResponse(t, p, auth, secret, libraryResponse(p, auth, secret), api.OK)
	}
}

// P11.3

func seeRequest(t *testing.T, p api.Packet, secret string, want api.Packet, wantE api.Errno) {
	t.Helper()
	if got, e := sign.Request(p, secret); !alike(got, want) || e != wantE {
		t.Errorf("Request(%s, %.80q): %s, %d, want %s, %d", told(p), secret, told(got), e, told(want), wantE)
	}
}

func TestRequestOfExample(t *testing.T) {
	want := readOf(t, statusAsked)
	seeRequest(t, want, secret, want, api.OK)
	seeRequest(t, withMessage(want, ""), secret, want, api.OK)
	seeRequest(t, packet.Without(want, 80), secret, want, api.OK)
}

func TestRequest(t *testing.T) {
	for _, p := range roomies {
		for _, secret := range anySecrets {
			seeRequest(t, p, secret, withMessage(p, libraryMessage(p, p.Auth, secret)), api.OK)
		}
	}
	r := rand.New(rand.NewSource(3))
	for i := range 1000 {
		p, secret := drawn(r, i%3), drawnText(r, r.Intn(100))
		seeRequest(t, p, secret, withMessage(p, libraryMessage(p, p.Auth, secret)), api.OK)
	}
}

func TestRequestOfWrong(t *testing.T) {
	for _, p := range slices.Concat(wrongs, fulls) {
		for _, secret := range anySecrets {
			seeRequest(t, p, secret, api.Packet{}, api.ErrArg)
		}
	}
	for _, p := range roomies {
		for _, p.Auth = range wrongAuths {
			seeRequest(t, p, secret, api.Packet{}, api.ErrArg)
		}
	}
}

// P11.4

func seeReply(t *testing.T, p api.Packet, auth, secret string, want api.Packet, wantE api.Errno) {
	t.Helper()
	if got, e := sign.Reply(p, auth, secret); !alike(got, want) || e != wantE {
		t.Errorf("Reply(%s, %q, %.80q): %s, %d, want %s, %d", told(p), auth, secret, told(got), e, told(want), wantE)
	}
}

func TestReply(t *testing.T) {
	for _, p := range roomies {
		for _, secret := range anySecrets {
			for _, auth := range []string{auth, other, zeros(16), p.Auth} {
				seeReply(t, p, auth, secret, libraryReply(p, auth, secret), api.OK)
			}
		}
		for _, own := range wrongAuths { // p's own Auth is not looked at
			q := p
			q.Auth = own
			seeReply(t, q, other, secret, libraryReply(p, other, secret), api.OK)
		}
	}
	r := rand.New(rand.NewSource(4))
	for i := range 1000 {
		p, auth, secret := drawn(r, i%3), drawnText(r, 16), drawnText(r, r.Intn(100))
		seeReply(t, p, auth, secret, libraryReply(p, auth, secret), api.OK)
	}
}

func TestReplyOfWrong(t *testing.T) {
	for _, p := range slices.Concat(wrongs, fulls) {
		for _, secret := range anySecrets {
			seeReply(t, p, auth, secret, api.Packet{}, api.ErrArg)
			seeReply(t, p, "", secret, api.Packet{}, api.ErrArg)
		}
	}
	for _, p := range roomies {
		for _, auth := range wrongAuths {
			seeReply(t, p, auth, secret, api.Packet{}, api.ErrArg)
		}
	}
}

// P11.5

func seeCheck(t *testing.T, p api.Packet, auth, secret string, want api.Errno) {
	t.Helper()
	if got := sign.Check(p, auth, secret); got != want {
		t.Errorf("Check(%s, %q, %.80q): %d, want %d", told(p), auth, secret, got, want)
	}
}

// answered is p with the Response Authenticator that is right, whatever its AttrMessages are.
func answered(p api.Packet) api.Packet {
	p.Auth = libraryResponse(p, auth, secret)
	return p
}

func TestCheckOfWrong(t *testing.T) {
	good := libraryReply(plain(), auth, secret)
	for _, p := range slices.Concat(wrongs, []api.Packet{plain(message(text(254)))}) {
		seeCheck(t, p, auth, secret, api.ErrArg)
		seeCheck(t, p, "", secret, api.ErrArg)
	}
	for _, wrong := range wrongAuths {
		seeCheck(t, good, wrong, secret, api.ErrArg)
		seeCheck(t, plain(), wrong, secret, api.ErrArg)                                 // ahead of there being none
		seeCheck(t, plain(message(auth), message(auth)), wrong, secret, api.ErrArg)     // and of there being two
		seeCheck(t, plain(message("short")), wrong, secret, api.ErrArg)                 // and of its length
		seeCheck(t, api.Packet{Code: 2, Id: 7, Auth: wrong}, auth, secret, api.ErrArg)  // p's own
		seeCheck(t, api.Packet{Code: 2, Id: 7, Auth: wrong}, wrong, secret, api.ErrArg) // both
	}
	for _, l := range [][]api.Attr{
		{message(auth), message(auth)},
		{message(auth), {Type: 1}, message(other)},
		{{Type: 1}, message(auth), message("x")},
		{message(""), message("")},
		slices.Repeat([]api.Attr{message("")}, 64),
		{message("")},
		{message("x")},
		{message(text(15))},
		{{Type: 1}, message(text(17))},
		{message(text(32))},
		{message(text(253))},
	} {
		seeCheck(t, plain(l...), auth, secret, api.ErrForm) // ahead of Auth, which is not Response
		seeCheck(t, answered(plain(l...)), auth, secret, api.ErrForm)
	}
	for _, l := range [][]api.Attr{
		nil,
		{},
		{{Type: 1, Value: "bob"}},
		{{Type: 79, Value: auth}, {Type: 81, Value: auth}},
		many(64),
		weighing(4076),
	} {
		seeCheck(t, plain(l...), auth, secret, api.ErrNone)
		seeCheck(t, answered(plain(l...)), auth, secret, api.ErrNone)
	}
}

// Two AttrMessages of which the first one, or each, is signed, or which were signed one by one.
func TestCheckOfTwoSigned(t *testing.T) {
	signed := libraryReply(plain(), auth, secret)
	twice := signed
	twice.Attrs = slices.Concat(signed.Attrs, signed.Attrs)
	seeCheck(t, twice, auth, secret, api.ErrForm)
	seeCheck(t, libraryReply(twice, auth, secret), auth, secret, api.ErrForm)
	seeCheck(t, libraryReply(plain(message(""), message("")), auth, secret), auth, secret, api.ErrForm)
}

func TestCheckOfSums(t *testing.T) {
	good := libraryReply(plain(api.Attr{Type: 1, Value: "bob"}), auth, secret)
	seeCheck(t, good, auth, secret, api.OK)
	seeCheck(t, good, other, secret, api.ErrSum)
	seeCheck(t, good, zeros(16), secret, api.ErrSum)
	seeCheck(t, good, good.Auth, secret, api.ErrSum)
	seeCheck(t, good, auth, "", api.ErrSum)
	seeCheck(t, good, auth, secret+"\x00", api.ErrSum)
	seeCheck(t, good, auth, secret[1:], api.ErrSum)
	seeCheck(t, good, auth, text(5000), api.ErrSum)
	for bit := range 128 {
		bad := good // the Response Authenticator is wrong, the Message-Authenticator right
		bad.Auth = turnedBit(good.Auth, bit)
		seeCheck(t, bad, auth, secret, api.ErrSum)
		value := good.Attrs[1].Value // the other way round
		seeCheck(t, answered(withMessage(good, turnedBit(value, bit))), auth, secret, api.ErrSum)
		bad = withMessage(bad, turnedBit(value, bit)) // neither is right
		seeCheck(t, bad, auth, secret, api.ErrSum)
		seeCheck(t, good, turnedBit(auth, bit), secret, api.ErrSum)
	}
	seeCheck(t, answered(withMessage(good, libraryMessage(good, other, secret))), auth, secret, api.ErrSum)
	seeCheck(t, answered(withMessage(good, libraryMessage(good, good.Auth, secret))), auth, secret, api.ErrSum)
	seeCheck(t, answered(withMessage(good, zeros(16))), auth, secret, api.ErrSum)
}

// Each bit of a reply's bytes that is turned is seen.
func TestCheckOfTurnedBits(t *testing.T) {
	p := libraryReply(plain(api.Attr{Type: 1, Value: "bob"}, message(""), api.Attr{Type: 79, Value: "\x03\x07\x00\x04"}), auth, secret)
	s := written(p, p.Auth)
	read := 0
	for bit := range len(s) * 8 {
		q, e := packet.Read(turnedBit(s, bit))
		if e != api.OK {
			continue
		}
		read++
		if sign.Check(q, auth, secret) == api.OK {
			t.Errorf("a reply with bit %d turned passes", bit)
		}
	}
	if read < 200 {
		t.Errorf("just %d were read", read)
	}
}

func TestCheckByItsWords(t *testing.T) {
	r := rand.New(rand.NewSource(5))
	seen := map[api.Errno]int{}
	for range 5000 {
		p, auth, secret := drawn(r, r.Intn(3)), drawnText(r, 16), "s"
		if r.Intn(3) > 0 {
			p = libraryReply(p, auth, secret)
		}
		switch r.Intn(8) {
		case 0:
			p.Auth = turnedBit(p.Auth, r.Intn(128))
		case 1:
			p = withMessage(p, drawnText(r, 16))
			p.Auth = libraryResponse(p, auth, secret)
		case 2:
			auth = auth[r.Intn(2):]
		}
		want := checked(p, auth, secret)
		seen[want]++
		seeCheck(t, p, auth, secret, want)
	}
	for _, e := range []api.Errno{api.OK, api.ErrArg, api.ErrForm, api.ErrNone, api.ErrSum} {
		if seen[e] < 100 {
			t.Errorf("error %d came just %d times", e, seen[e])
		}
	}
}

// checked is Check of a packet that is right, told anew.
func checked(p api.Packet, auth, secret string) api.Errno {
	messages := []string{}
	for _, a := range p.Attrs {
		if a.Type == 80 {
			messages = append(messages, a.Value)
		}
	}
	switch {
	case len(auth) != 16:
		return api.ErrArg
	case len(messages) > 1, len(messages) == 1 && len(messages[0]) != 16:
		return api.ErrForm
	case len(messages) == 0:
		return api.ErrNone
	case p.Auth != libraryResponse(p, auth, secret), messages[0] != libraryMessage(p, auth, secret):
		return api.ErrSum
	}
	return api.OK
}

// P11.6

func seePasses(t *testing.T, p api.Packet, auth, secret string) {
	t.Helper()
	reply, e := sign.Reply(p, auth, secret)
	if e != api.OK {
		t.Errorf("Reply(%s, %q, %.80q): %d", told(p), auth, secret, e)
		return
	}
	seeCheck(t, reply, auth, secret, api.OK)
	s, e := packet.Bytes(reply)
	back, backE := packet.Read(s)
	if e != api.OK || backE != api.OK {
		t.Errorf("a reply is written with %d, and read with %d: %s", e, backE, told(reply))
	}
	seeCheck(t, back, auth, secret, api.OK)
	seeCheck(t, reply, turnedBit(auth, 77), secret, api.ErrSum)
	seeCheck(t, reply, auth, secret+"x", api.ErrSum)
	if again, e := sign.Reply(reply, auth, secret); !alike(again, reply) || e != api.OK {
		t.Errorf("a reply signed again is another one: %s, %d, want %s", told(again), e, told(reply))
	}
}

func TestReplyPassesCheck(t *testing.T) {
	for _, p := range roomies {
		for _, secret := range anySecrets {
			seePasses(t, p, auth, secret)
			seePasses(t, p, p.Auth, secret)
		}
	}
	r := rand.New(rand.NewSource(6))
	for i := range 1000 {
		seePasses(t, drawn(r, i%2), drawnText(r, 16), drawnText(r, r.Intn(100)))
	}
}

// R3: what is handed in stays as it was, behind its end too, and what is answered is new.

func TestPacketsAreNotChanged(t *testing.T) {
	room := []api.Attr{{Type: 1, Value: "a"}, message(other), {Type: 3, Value: "c"}, {Type: 4, Value: "behind"}, {Type: 5, Value: "that"}}
	want := slices.Clone(room)
	for long := range 4 { // without an AttrMessage, and with one
		p := plain(room[:long]...)
		sign.Message(p, other, secret)
		sign.Response(p, other, secret)
		sign.Check(p, other, secret)
		asked, _ := sign.Request(p, secret)
		reply, _ := sign.Reply(p, other, secret)
		for _, out := range []api.Packet{asked, reply} {
			clear(out.Attrs)
			_ = append(out.Attrs, api.Attr{Type: 9}, api.Attr{Type: 9})
		}
		if !slices.Equal(room, want) {
			t.Errorf("of %d attributes: %s, want %s", long, told(room), told(want))
		}
	}
}

// Whatever comes: nothing panics, a reply passes, and another secret's does not.
func FuzzSign(f *testing.F) {
	f.Add("", "", "")
	f.Add("\x01\x07\x00\x14"+auth, auth, "s")
	f.Add("\x02\x07\x00\x26"+auth+"\x50\x12"+auth, auth, secret)
	f.Add("\x02\x07\x00\x18"+auth+"\x50\x02\x50\x02", auth, "")
	f.Add("\x02\x07\x00\x16"+auth+"\x50\x02", "short", "s")
	f.Fuzz(func(t *testing.T, s, auth, secret string) {
		p, _ := packet.Read(s)
		sign.Check(p, auth, secret)
		sign.Request(p, secret)
		reply, e := sign.Reply(p, auth, secret)
		if e != api.OK {
			if e != api.ErrArg || !alike(reply, api.Packet{}) {
				t.Errorf("Reply(%s, %q, %q): %s, %d", told(p), auth, secret, told(reply), e)
			}
			return
		}
		if want := checked(reply, auth, secret); sign.Check(reply, auth, secret) != want || want == api.ErrNone || want == api.ErrSum {
			t.Errorf("Check(%s, %q, %q): %d", told(reply), auth, secret, want)
		}
	})
}
