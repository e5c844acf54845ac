/-
  What attr.Read reads of any text.
-/
import Derived.Test.YtmacgbknmpmdiaaAttC
namespace Go.Proofs.Ytmacgbknmpmdiaa
open Go.RowKit
namespace Att
open Oct

theorem front_short (s : ByteArray) (w : World) (hs : s.size < 2) :
    Calls Try.prog 38 #[.string s] w fun e w' => e = .returned (.tuple #[av (0, ⟨#[]⟩), .int .i64 2]) ∧ Below w.heap.size w w' := by
  go_enter Try.func38, Try.ntmps38
  go_wp2_with fail
  refine bodyPost_ret (v := .tuple #[av (0, ⟨#[]⟩), .int .i64 2]) ?_ rfl ⟨rfl, ?_⟩
  · simp [results, Try.results38, go_sem]
  · exact Bx.box_below _ _

set_option maxHeartbeats 1000000 in
theorem front_type (s : ByteArray) (T N : Nat) (w : World) (hs : 2 ≤ s.size) (hz : s.size ≤ 9223372036854775807) (h0 : s[0].toNat = T) (h1 : s[1].toNat = N) (hT : T < 1) :
    Calls Try.prog 38 #[.string s] w fun e w' => e = .returned (.tuple #[av (0, ⟨#[]⟩), .int .i64 3]) ∧ Below w.heap.size w w' := by
  have p0 : 0 < s.size := by omega
  have p1 : 1 < s.size := by omega
  have bel := (Bx.box_below w (Obj.cells #[Value.int IntKind.i64 0, Value.string ⟨#[]⟩] 41)).drew
  go_enter Try.func38, Try.ntmps38
  go_wp2_with fail
  go_region
  go_wp2_with fail
  refine bodyPost_ret (v := .tuple #[av (0, ⟨#[]⟩), .int .i64 3]) ?_ rfl ⟨rfl, ?_⟩
  · simp [results, Try.results38, go_sem]
  · exact bel

set_option maxHeartbeats 1000000 in
theorem front_form (s : ByteArray) (T N : Nat) (w : World) (hs : 2 ≤ s.size) (hz : s.size ≤ 9223372036854775807) (h0 : s[0].toNat = T) (h1 : s[1].toNat = N) (hT : 1 ≤ T) (hT2 : T < 256) (hN : N < 2) :
    Calls Try.prog 38 #[.string s] w fun e w' => e = .returned (.tuple #[av (0, ⟨#[]⟩), .int .i64 3]) ∧ Below w.heap.size w w' := by
  have p0 : 0 < s.size := by omega
  have p1 : 1 < s.size := by omega
  have bel := (Bx.box_below w (Obj.cells #[Value.int IntKind.i64 0, Value.string ⟨#[]⟩] 41)).drew
  go_enter Try.func38, Try.ntmps38
  go_wp2_with fail
  go_region
  go_wp2_with fail
  refine bodyPost_ret (v := .tuple #[av (0, ⟨#[]⟩), .int .i64 3]) ?_ rfl ⟨rfl, ?_⟩
  · simp [results, Try.results38, go_sem]
  · exact bel

set_option maxHeartbeats 1000000 in
theorem front_cut (s : ByteArray) (T N : Nat) (X : ByteArray) (w : World) (hs : 2 ≤ s.size) (hz : s.size ≤ 9223372036854775807) (h0 : s[0].toNat = T) (h1 : s[1].toNat = N) (hT : 1 ≤ T) (hT2 : T < 256) (hN : 2 ≤ N) (hN2 : N < 256)
    (HC : Hid (∀ w, Calls Try.prog 47 #[.string s, .int .i64 2, .int .i64 ((N : Int) - 2)] w fun e w' => e = .returned (.tuple #[.string X, .int .i64 2]) ∧ w = w')) :
    Calls Try.prog 38 #[.string s] w fun e w' => e = .returned (.tuple #[av (0, ⟨#[]⟩), .int .i64 2]) ∧ Below w.heap.size w w' := by
  have p0 : 0 < s.size := by omega
  have p1 : 1 < s.size := by omega
  have bel := (Bx.box_below w (Obj.cells #[Value.int IntKind.i64 0, Value.string ⟨#[]⟩] 41)).drew
  go_enter Try.func38, Try.ntmps38
  go_wp2_with fail
  go_region
  go_wp2_with fail
  refine (HC.out _).mono ?_; rintro e w' ⟨rfl, rfl⟩
  go_wp2_with fail
  refine bodyPost_ret (v := .tuple #[av (0, ⟨#[]⟩), .int .i64 2]) ?_ rfl ⟨rfl, ?_⟩
  · simp [results, Try.results38, go_sem]
  · exact bel

set_option maxHeartbeats 1000000 in
theorem front_ok (s : ByteArray) (T N : Nat) (X : ByteArray) (w : World) (hs : 2 ≤ s.size) (hz : s.size ≤ 9223372036854775807) (h0 : s[0].toNat = T) (h1 : s[1].toNat = N) (hT : 1 ≤ T) (hT2 : T < 256) (hN : 2 ≤ N) (hN2 : N < 256)
    (HC : Hid (∀ w, Calls Try.prog 47 #[.string s, .int .i64 2, .int .i64 ((N : Int) - 2)] w fun e w' => e = .returned (.tuple #[.string X, .int .i64 0]) ∧ w = w')) :
    Calls Try.prog 38 #[.string s] w fun e w' => e = .returned (.tuple #[av ((T : Int), X), .int .i64 0]) ∧ Below w.heap.size w w' := by
  have p0 : 0 < s.size := by omega
  have p1 : 1 < s.size := by omega
  have bel := (Bx.box_below w (Obj.cells #[Value.int IntKind.i64 T, Value.string X] 41)).drew
  go_enter Try.func38, Try.ntmps38
  go_wp2_with fail
  go_region
  go_wp2_with fail
  refine (HC.out _).mono ?_; rintro e w' ⟨rfl, rfl⟩
  go_wp2_with fail
  refine bodyPost_ret (v := .tuple #[av ((T : Int), X), .int .i64 0]) ?_ rfl ⟨rfl, ?_⟩
  · simp [results, Try.results38, go_sem]
  · exact bel

/-- What stands first in a text that is not empty. -/
def headE (t : ByteArray) : Int × At := if h : 2 ≤ t.size then (if t[0].toNat < 1 ∨ t[1].toNat < 2 then ((3 : Int), ((0 : Int), (⟨#[]⟩ : ByteArray))) else if t.size < t[1].toNat then ((2 : Int), ((0 : Int), (⟨#[]⟩ : ByteArray))) else ((0 : Int), ((t[0].toNat : Int), t.extract 2 t[1].toNat))) else ((2 : Int), ((0 : Int), (⟨#[]⟩ : ByteArray)))

theorem front_any (s : ByteArray) (hz : s.size ≤ 9223372036854775807) (w : World) :
    Calls Try.prog 38 #[.string s] w fun e w' => e = .returned (.tuple #[av (headE s).2, .int .i64 (headE s).1]) ∧ Below w.heap.size w w' := by
  by_cases hs : 2 ≤ s.size
  · have hT := s[0].toNat_lt
    have hN := s[1].toNat_lt
    by_cases h1 : s[0].toNat < 1 ∨ s[1].toNat < 2
    · have e : headE s = (3, (0, ⟨#[]⟩)) := by unfold headE; rw [dif_pos hs, if_pos h1]
      rw [e]
      by_cases h2 : s[0].toNat < 1
      · exact front_type s _ _ w hs hz rfl rfl h2
      · exact front_form s _ _ w hs hz rfl rfl (by omega) hT (by omega)
    · have hC := Lib.hid (fun w => cut_any s 2 ((s[1].toNat : Int) - 2) w hz (by omega))
      by_cases h2 : s.size < s[1].toNat
      · have e : headE s = (2, (0, ⟨#[]⟩)) := by unfold headE; rw [dif_pos hs, if_neg h1, if_pos h2]
        have e2 : cutE s.size 2 ((s[1].toNat : Int) - 2) = 2 := by unfold cutE; rw [if_neg (by omega), if_pos (by omega)]
        rw [e2] at hC
        rw [e]
        exact front_cut s _ _ _ w hs hz rfl rfl (by omega) hT (by omega) hN hC
      · have e : headE s = ((0 : Int), (((s[0].toNat : Int), s.extract 2 s[1].toNat) : At)) := by unfold headE; rw [dif_pos hs, if_neg h1, if_neg h2]
        have e2 : cutE s.size 2 ((s[1].toNat : Int) - 2) = 0 := cutE_zero.2 (by omega)
        have e3 : cutS s 2 ((s[1].toNat : Int) - 2) = s.extract 2 s[1].toNat := by
          unfold cutS
          rw [if_pos e2, show ((2 : Int) + ((s[1].toNat : Int) - 2)).toNat = s[1].toNat by omega]
          rfl
        rw [e2, e3] at hC
        rw [e]
        exact front_ok s _ _ _ w hs hz rfl rfl (by omega) hT (by omega) hN hC
  · have e : headE s = (2, (0, ⟨#[]⟩)) := by unfold headE; rw [dif_neg hs]
    rw [e]
    exact front_short s w (by omega)

end Att
end Go.Proofs.Ytmacgbknmpmdiaa
