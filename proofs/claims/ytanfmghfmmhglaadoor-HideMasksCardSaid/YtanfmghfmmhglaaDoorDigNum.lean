/-
  Plain facts on digests of 16 bytes (no program): the constants, turns, mixes, padded texts, blocks and digests, as numbers and lists of bytes.
-/
namespace Go.Proofs.YtanfmghfmmhglaaDoor
namespace Dig

/-- The constants. -/
def kL : List Nat := [3614090360, 3905402710, 606105819, 3250441966, 4118548399, 1200080426, 2821735955, 4249261313, 1770035416, 2336552879, 4294925233, 2304563134, 1804603682, 4254626195, 2792965006, 1236535329, 4129170786, 3225465664, 643717713, 3921069994, 3593408605, 38016083, 3634488961, 3889429448, 568446438, 3275163606, 4107603335, 1163531501, 2850285829, 4243563512, 1735328473, 2368359562, 4294588738, 2272392833, 1839030562, 4259657740, 2763975236, 1272893353, 4139469664, 3200236656, 681279174, 3936430074, 3572445317, 76029189, 3654602809, 3873151461, 530742520, 3299628645, 4096336452, 1126891415, 2878612391, 4237533241, 1700485571, 2399980690, 4293915773, 2240044497, 1873313359, 4264355552, 2734768916, 1309151649, 4149444226, 3174756917, 718787259, 3951481745]

def kAt (i : Nat) : Nat := kL.getD i 0

/-- Constant(i). -/
def constN (i : Int) : Nat := if 0 ≤ i ∧ i < 64 then kAt i.toNat else 0

/-- How far a round turns. -/
def tL : List Nat := [7, 12, 17, 22, 5, 9, 14, 20, 4, 11, 16, 23, 6, 10, 15, 21]

def byN (i : Nat) : Nat := tL.getD (i / 16 * 4 + i % 4) 0

/-- The opposite of a word. -/
def notN (x : Nat) : Nat := 4294967295 - x

/-- A word, turned up. -/
def rotN (x n : Nat) : Nat := (x * 2 ^ n) % 4294967296 ||| x / 2 ^ (32 - n)

def add2 (a b : Nat) : Nat := (a + b) % 4294967296

/-- Mix's word, and its number. -/
def mixF (i : Int) (b c d : Nat) : Nat := if i < 16 then (b &&& c) ||| (notN b &&& d) else if i < 32 then (d &&& b) ||| (notN d &&& c) else if i < 48 then b ^^^ c ^^^ d else c ^^^ (b ||| notN d)
def mixG (i : Int) : Nat := ((if i < 16 then i else if i < 32 then 5 * i + 1 else if i < 48 then 3 * i + 5 else 7 * i) % 16).toNat

/-- Four words. -/
structure Q where
  a : Nat
  b : Nat
  c : Nat
  d : Nat

def Q.ok (q : Q) : Prop := q.a < 4294967296 ∧ q.b < 4294967296 ∧ q.c < 4294967296 ∧ q.d < 4294967296

/-- What a round makes of four words; w: the block's words. -/
def stepF (w : Nat → Nat) (i : Nat) (q : Q) : Nat := add2 (mixF i q.b q.c q.d) (add2 (add2 q.a (kAt i)) (w (mixG i)))
def stepN (w : Nat → Nat) (i : Nat) (q : Q) : Q := ⟨q.d, add2 q.b (rotN (stepF w i q) (byN i)), q.b, q.c⟩

def roundsN (w : Nat → Nat) (q : Q) : Nat → Q
  | 0 => q
  | k + 1 => stepN w k (roundsN w q k)

def plusN (h q : Q) : Q := ⟨add2 h.a q.a, add2 h.b q.b, add2 h.c q.c, add2 h.d q.d⟩

/-- The word at a place of a text, the lowest byte first. -/
def byteAt (l : List UInt8) (k : Nat) : Nat := (l.getD k 0).toNat
def wordN (l : List UInt8) (j : Nat) : Nat := byteAt l (4 * j) + 256 * byteAt l (4 * j + 1) + 65536 * byteAt l (4 * j + 2) + 16777216 * byteAt l (4 * j + 3)

/-- Block(h, s). -/
def blockN (h : Q) (l : List UInt8) : Q := if l.length = 64 then plusN h (roundsN (wordN l) h 64) else h

/-- The lowest k bytes of n, the lowest first. -/
def lowL (n : Nat) : Nat → List UInt8
  | 0 => []
  | k + 1 => UInt8.ofNat n :: lowL (n / 256) k

def zerosN (n : Nat) : Nat := (119 - n % 64) % 64

/-- Pad(s). -/
def padL (l : List UInt8) : List UInt8 := l ++ [128] ++ List.replicate (zerosN l.length) 0 ++ lowL (8 * l.length) 8

def initQ : Q := ⟨1732584193, 4023233417, 2562383102, 271733878⟩

/-- What h is behind k blocks of a padded text. -/
def blocksN (p : List UInt8) : Nat → Q
  | 0 => initQ
  | k + 1 => blockN (blocksN p k) ((p.drop (64 * k)).take 64)

def outL (q : Q) : List UInt8 := lowL q.a 4 ++ lowL q.b 4 ++ lowL q.c 4 ++ lowL q.d 4

/-- Sum(s). -/
def sumL (l : List UInt8) : List UInt8 := outL (blocksN (padL l) ((padL l).length / 64))

theorem sum_abc : sumL [97, 98, 99] = [0x90, 0x01, 0x50, 0x98, 0x3c, 0xd2, 0x4f, 0xb0, 0xd6, 0x96, 0x3f, 0x7d, 0x28, 0xe1, 0x7f, 0x72] := by decide +kernel
theorem sum_none : sumL [] = [0xd4, 0x1d, 0x8c, 0xd9, 0x8f, 0x00, 0xb2, 0x04, 0xe9, 0x80, 0x09, 0x98, 0xec, 0xf8, 0x42, 0x7e] := by decide +kernel

end Dig
end Go.Proofs.YtanfmghfmmhglaaDoor
