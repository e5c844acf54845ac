/-
  What the document's word answers: the word at a place of a text, the lowest byte first.
-/
import Derived.Test.YtanfmghfmmhglaaDoorDigA
import Derived.Deep.QuietTactic
import Derived.BigQuiet
namespace Go.Proofs.YtanfmghfmmhglaaDoor
open Go.RowKit
namespace Dig

theorem shl_or (x b : Nat) (k : Nat) (hx : x < 2 ^ k) (hb : b < 256) (hk : k ≤ 24) : bits .or .u32 (x : Int) ((b : Int) * 2 ^ k) = ((x + 2 ^ k * b : Nat) : Int) := by
  have h1 : (2 : Nat) ^ k ≤ 2 ^ 24 := Nat.pow_le_pow_right (by omega) hk
  have h2 : b * 2 ^ k ≤ 255 * 2 ^ k := Nat.mul_le_mul_right _ (by omega)
  rw [show ((b : Int) * 2 ^ k) = ((b * 2 ^ k : Nat) : Int) by simp, u32_or_nat _ _ (by omega) (by omega), Nat.or_comm, Nat.mul_comm b, ← Nat.two_pow_add_eq_or_of_lt hx, Nat.add_comm]

theorem word_or (a b c d : Nat) (ha : a < 256) (hb : b < 256) (hc : c < 256) (hd : d < 256) :
    bits .or .u32 (bits .or .u32 (bits .or .u32 (a : Int) ((b : Int) * 256)) ((c : Int) * 65536)) ((d : Int) * 16777216) = ((a + 256 * b + 65536 * c + 16777216 * d : Nat) : Int) := by
  have h1 : bits .or .u32 (a : Int) ((b : Int) * 256) = ((a + 256 * b : Nat) : Int) := shl_or a b 8 (by omega) hb (by omega)
  have h2 : bits .or .u32 ((a + 256 * b : Nat) : Int) ((c : Int) * 65536) = ((a + 256 * b + 65536 * c : Nat) : Int) := shl_or (a + 256 * b) c 16 (by omega) hc (by omega)
  have h3 : bits .or .u32 ((a + 256 * b + 65536 * c : Nat) : Int) ((d : Int) * 16777216) = ((a + 256 * b + 65536 * c + 16777216 * d : Nat) : Int) := shl_or (a + 256 * b + 65536 * c) d 24 (by omega) hd (by omega)
  rw [h1, h2, h3]

set_option maxHeartbeats 400000 in
/-- The document's word. -/
theorem rword_any (s : ByteArray) (a : Nat) (w : World) (hs : s.size = 64) (ha : a + 3 < 64) :
    Calls Tryd.prog 38 #[.string s, .int .i64 a] w fun e w' => e = .returned (.int .u32 (byteAt s.data.toList a + 256 * byteAt s.data.toList (a + 1) + 65536 * byteAt s.data.toList (a + 2) + 16777216 * byteAt s.data.toList (a + 3) : Nat)) ∧ ∃ n, w' = w.drewN n := by
  have h0 : a < s.size := by omega
  have h1 : a + 1 < s.size := by omega
  have h2 : a + 2 < s.size := by omega
  have h3 : a + 3 < s.size := by omega
  have hb : ∀ k (hk : k < s.size), byteAt s.data.toList k = (s[k]).toNat := by
    intro k hk
    unfold byteAt
    rw [List.getD_eq_getElem?_getD, List.getElem?_eq_getElem (by simpa using hk)]
    rfl
  have e0 := hb _ h0
  have e1 := hb _ h1
  have e2 := hb _ h2
  have e3 := hb _ h3
  have b0 := s[a].toNat_lt
  have b1 := s[a + 1].toNat_lt
  have b2 := s[a + 2].toNat_lt
  have b3 := s[a + 3].toNat_lt
  have E := Lib.hid (And.intro e0 (And.intro e1 (And.intro e2 e3)))
  clear e0 e1 e2 e3 hb
  have n1 : ((a : Int) + 1).toNat = a + 1 := by omega
  have n2 : ((a : Int) + 2).toNat = a + 2 := by omega
  have n3 : ((a : Int) + 3).toNat = a + 3 := by omega
  have p1 : (0 : Int) ≤ (a : Int) + 1 := by omega
  have p2 : (0 : Int) ≤ (a : Int) + 2 := by omega
  have p3 : (0 : Int) ≤ (a : Int) + 3 := by omega
  have w1 : IntKind.i64.wrap ((a : Int) + 1) = (a : Int) + 1 := IntWalk.i64_in _ (by omega)
  have w2 : IntKind.i64.wrap ((a : Int) + 2) = (a : Int) + 2 := IntWalk.i64_in _ (by omega)
  have w3 : IntKind.i64.wrap ((a : Int) + 3) = (a : Int) + 3 := IntWalk.i64_in _ (by omega)
  have i1 : (a : Int) + 1 < (s.size : Int) := by omega
  have i2 : (a : Int) + 2 < (s.size : Int) := by omega
  have i3 : (a : Int) + 3 < (s.size : Int) := by omega
  clear hs ha
  go_enter Tryd.func38, Tryd.ntmps38
  go_wp2
  go_quiet (fail)
  go_wp2
  go_ret
  refine ⟨ret_u32 ?_, _, rfl⟩
  obtain ⟨e0, e1, e2, e3⟩ := E.out
  rw [e0, e1, e2, e3]
  exact word_or _ _ _ _ b0 b1 b2 b3

end Dig
end Go.Proofs.YtanfmghfmmhglaaDoor
