/-
  What attr.Join and Same, and the document's answers beside them, answer of any attributes.
-/
import Derived.Test.YtjocabnhdifedaaAttC
import Derived.Test.YtjocabnhdifedaaShelf
import Derived.Laws.StructEq
namespace Go.Proofs.Ytjocabnhdifedaa
open Go.RowKit
namespace Att
open Oct

theorem join_cat (ls : List (List UInt8)) : Lib.join ls [] = ls.flatten := by
  cases ls with
  | nil => rfl
  | cons x r =>
    rw [Lib.join_cons]
    unfold Lib.joinTail
    simp

set_option maxHeartbeats 1000000 in
theorem join_any (l : List At) (hl : l.length ≤ 1000) (kind : Int) (hx : (catS (allV l kind)).size ≤ 1048576) (A : Option Addr) (c : Nat) (w : World) (hA : Ats w A l) :
    Calls Try.prog 21 #[.slice A l.length c, .int .i64 kind] w fun e w' => e = .returned (.string (catS (allV l kind))) ∧ Below w.heap.size w w' := by
  have HL := Lib.hid (fun w hA => all_any l hl kind A c w hA)
  have hr := allV_length l kind
  generalize allV l kind = r at *
  have HJ : Hid (∀ (B : Option Addr) (c : Nat) (wr : World), r.length ≤ c → Txs wr B r → Calls Try.prog 38 #[.slice B r.length c, .string ⟨#[]⟩] wr fun e w' => e = .returned (.string (catS r)) ∧ Below wr.heap.size wr w') := by
    intro B c wr hc ht
    cases r with
    | nil => exact (Try.strings_Join_none B c ⟨#[]⟩ wr).mono fun e w' ⟨h1, h2⟩ => ⟨h1, by subst h2; exact Below.refl _ _⟩
    | cons v r =>
      obtain ⟨b, o, rfl, hb, _⟩ := ht 0 v rfl
      have hj := Try.strings_Join b o c (v :: r) ⟨#[]⟩ wr
      rw [show (⟨#[]⟩ : ByteArray).data.toList = [] from rfl, join_cat] at hj
      refine hj (fun j x hjx => ?_) hb (by omega) hc ?_
      · obtain ⟨b', o', e, _, h2⟩ := ht j x hjx
        cases e
        exact h2
      · have := catS_size (v :: r)
        omega
  generalize catS r = C at *
  go_enter Try.func21, Try.ntmps21
  go_wp2_with fail
  refine (HL.out _ hA).mono ?_; rintro e w1 ⟨B, c', rfl, h1, h2, h3⟩
  have H3 := Lib.hid h3
  go_wp2_with fail
  refine (HJ.out _ _ _ h1 h2).mono ?_; rintro e w2 ⟨rfl, hb2⟩
  have H4 := Lib.hid (Bx.then_below H3.out hb2)
  go_wp2_with fail
  go_ret
  exact ⟨rfl, H4.out⟩

theorem catS_take (xs : List ByteArray) (k : Nat) (h : k < xs.length) : catS (xs.take (k + 1)) = catS (xs.take k) ++ xs[k] := by
  rw [List.take_succ_eq_append_getElem h, catS_snoc]

theorem catS_le (xs : List ByteArray) (k : Nat) : (catS (xs.take k)).size ≤ (catS xs).size := by
  rw [catS_size, catS_size]
  conv => rhs; rw [← List.take_append_drop k xs]
  rw [List.map_append, List.flatten_append, List.length_append]
  exact Nat.le_add_right _ _

set_option maxHeartbeats 1000000 in
theorem rjoin_any (l : List At) (hl : l.length ≤ 1000) (kind : Int) (hx : (catS (allV l kind)).size ≤ 1048576) (A : Option Addr) (c : Nat) (w : World) (hA : Ats w A l) :
    Calls Try.prog 22 #[.slice A l.length c, .int .i64 kind] w fun e w' => e = .returned (.string (catS (allV l kind))) ∧ Below w.heap.size w w' := by
  have HL := Lib.hid (fun w hA => rall_any l hl kind A c w hA)
  have hr := allV_length l kind
  generalize allV l kind = r at *
  go_enter Try.func22, Try.ntmps22
  go_wp2_with fail
  refine (HL.out _ hA).mono ?_; rintro e w1 ⟨B, c', rfl, h1, h2, h3⟩
  have HT := Lib.hid h2
  have HB1 := Lib.hid h3
  clear h2 h3
  go_wp2
  go_loopw [5, 7, 12] (fun s _ ix wr => ∃ k : Nat, k ≤ r.length ∧ ix = .int .i64 k ∧ s = .string (catS (r.take k)) ∧ wr = w1) (fun _ _ ix _ => r.length - (intOf ix).toNat)
  case atStart => exact ⟨0, Nat.zero_le _, rfl, rfl, rfl⟩
  case round =>
    obtain ⟨k, hk, rfl, rfl, rfl⟩ := hrel
    by_cases hlt : k < r.length
    · obtain ⟨b, o, rfl, _, c0⟩ := HT.out.at hlt
      have HN := Lib.hid (catS_take r k hlt)
      have z1 : ¬ ((catS (r.take k)).size + r[k].size > 9223372036854775807) := by
        have e1 := catS_le r (k + 1)
        rw [HN.out, ByteArray.size_append] at e1
        omega
      generalize r[k] = x at *
      generalize catS (r.take k) = s at *
      go_wp2
      go_roundw
      case rel => exact ⟨k + 1, by omega, by go_num, by rw [HN.out], trivial⟩
      case measure => simp [intOf]; omega
    · have HN := Lib.hid (show catS (r.take k) = catS r by rw [List.take_of_length_le (by omega)])
      go_wp2
      go_ret
      exact ⟨by rw [← HN.out]; rfl, HB1.out⟩

end Att
end Go.Proofs.Ytjocabnhdifedaa
