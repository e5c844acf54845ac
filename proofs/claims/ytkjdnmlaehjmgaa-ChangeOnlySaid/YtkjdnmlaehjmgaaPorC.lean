/-
  What the document's Text answers, Next and the document's, ports.listed and ports.filled, for every set.
-/
import Derived.Test.YtkjdnmlaehjmgaaPorB
namespace Go.Proofs.Ytkjdnmlaehjmgaa
open Go.RowKit
namespace Por

theorem empty_of (o : ByteArray) (l : List UInt8) (h : o = ⟨l.toArray⟩) : o.toList = l := by
  subst h
  rw [ByteArray.toList_eq]

theorem textB_of (m : Nat) (h : m < 256) (o : ByteArray) (ho : o = ⟨(digL m 8).toArray⟩) : (o.toList = [] → textB m = ⟨#[45]⟩) ∧ (¬ o.toList = [] → textB m = o) := by
  rw [empty_of o _ ho, digL_nil]
  have h1 : listI m 8 = [] ↔ m = 0 := by rw [← List.length_eq_zero_iff]; exact count_zero m h
  rw [h1]
  exact ⟨fun h0 => text_none m h0, fun h0 => by rw [ho]; exact text_some m h0⟩

theorem with_nat (m : Nat) (p : Int) (hm : m < 256) (w : World) :
    Calls Try.prog 16 #[.int .i64 m, .int .i64 p] w fun e w' => e = .returned (.int .i64 (withN m p : Nat)) ∧ w = w' := by
  have := with_any m p w
  rw [withI_nat m p hm] at this
  exact this

theorem rwith_nat (m : Nat) (p : Int) (hm : m < 256) (w : World) :
    Calls Try.prog 18 #[.int .i64 m, .int .i64 p] w fun e w' => e = .returned (.int .i64 (withN m p : Nat)) ∧ w = w' := by
  have := rwith_any m p w
  rw [withI_nat m p hm] at this
  exact this

end Por
end Go.Proofs.Ytkjdnmlaehjmgaa
