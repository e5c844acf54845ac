/-
  A number in decimal digits: what table.number and the document's own digits answer.
-/
import Derived.Test.YtfnjgjehmddkcaaDoorDecA
import Derived.Test.YtfnjgjehmddkcaaDoorTabCntNum
import Derived.Deep.RegionWith
namespace Go.Proofs.YtfnjgjehmddkcaaDoor
open Go.RowKit
namespace Tab

theorem num_itoa {n : Int} (h : ¬ n < 0) : numL n = Lib.itoa n := by
  unfold numL Lib.itoa
  rw [if_neg h, if_neg h]

set_option maxRecDepth 40000 in
theorem number_any (n : Int) (h0 : -9223372036854775808 ≤ n) (h1 : n ≤ 9223372036854775807) (w : World) (hH : Dec.Home w) :
    Calls Tryd.prog 25 #[.int .i64 n] w fun e w' => e = .returned (.string ⟨(numL n).toArray⟩) ∧ Below w.heap.size w w' := by
  by_cases h : n < 0
  · rw [show numL n = [45] from if_pos h]
    go_enter Tryd.func25, Tryd.ntmps25
    go_wp2
    go_ret
    exact ⟨rfl, Below.refl _ _⟩
  · rw [num_itoa h]
    have H := Lib.hid (Dec.itoa_any n h0 h1 w hH)
    generalize Lib.itoa n = t at *
    clear h0 h1
    go_enter Tryd.func25, Tryd.ntmps25
    go_wp2_with fail
    refine H.out.mono ?_; rintro e w1 ⟨rfl, hb⟩
    go_wp2
    go_ret
    exact ⟨rfl, hb⟩

/-- string(b), b a slice of one byte, whatever else the memory holds. -/
theorem conv_one (W : World) (k : Nat) (x : Int) (m : Nat) (hx : x = (m % 256 : Nat)) (h : W.cell? ⟨k, 0, none⟩ = some (.int .u8 x)) :
    (convert 50 9 (.slice (some ⟨k, 0, none⟩) 1 1)).run Tryd.prog W = .ok (.string ⟨#[UInt8.ofNat m]⟩) W := by
  refine run_convert_bytes_back W 50 9 5 ⟨k, 0, none⟩ 1 [UInt8.ofNat m] Tryd.underlying50 Tryd.underlying5 Tryd.underlying9 fun j hj => ?_
  match j, hj with
  | 0, _ =>
    simp [Addr.add, h]
    omega

set_option maxRecDepth 40000 in
theorem digits_nat : ∀ (f k : Nat), k < f → k < 9223372036854775808 → ∀ (w : World), Calls Tryd.prog 28 #[.int .i64 k] w fun e w' => e = .returned (.string ⟨(Lib.decDigits k).toArray⟩) ∧ Below w.heap.size w w' := by
  intro f
  induction f with
  | zero => intro k hk; omega
  | succ f ih =>
    intro k hk hk2 w
    by_cases h : k < 10
    · rw [Lib.decDigits_one h]
      have hcv := conv_one (w.alloc (.cells #[.int .u8 (48 + (k : Int))] 5)) w.heap.size (48 + (k : Int)) (48 + k) (by omega) (Bx.Blk.new w [.int .u8 (48 + (k : Int))] 5).all1
      generalize UInt8.ofNat (48 + k) = d at *
      go_enter Tryd.func28, Tryd.ntmps28
      go_wp2
      go_ret
      exact ⟨rfl, Bx.box_below _ _⟩
    · have IH := Lib.hid (fun w => ih (k / 10) (by omega) (by omega) w)
      rw [show (((k / 10 : Nat) : Nat) : Int) = (k : Int) / 10 by omega] at IH
      have e : Lib.decDigits k = Lib.decDigits (k / 10) ++ [UInt8.ofNat (48 + k % 10)] := by rw [Lib.decDigits, dif_neg h]
      rw [e]
      have hlen : (Lib.decDigits (k / 10)).length ≤ 100 := by
        have h1 := Lib.itoa_length_le ((k / 10 : Nat) : Int) (by omega) (by omega)
        rw [Lib.itoa_nonneg] at h1
        omega
      clear e ih hk
      generalize Lib.decDigits (k / 10) = t at *
      have q1 : IntKind.i64.wrap ((k : Int) / 10) = (k : Int) / 10 := by rw [IntKind.wrap_i64]; omega
      obtain ⟨r, q2, hr⟩ : ∃ r : Int, (k : Int).tmod 10 = r ∧ r = ((k % 10 : Nat) : Int) := ⟨_, rfl, by rw [Int.tmod_eq_emod_of_nonneg (by omega)]; omega⟩
      obtain ⟨x, q3, hx⟩ : ∃ x : Int, IntKind.i64.wrap (48 + r) = x ∧ x = ((48 + k % 10 : Nat) : Int) := ⟨_, rfl, by rw [IntKind.wrap_i64]; omega⟩
      have q4 : IntKind.u8.wrap x = x := by rw [IntKind.wrap_u8]; omega
      have CV := Lib.hid (fun W n => conv_one W n x (48 + k % 10) (by omega))
      have hcv : ∀ (W : World) (n : Nat), n = W.heap.size → (convert 50 9 (.slice (some ⟨n, 0, none⟩) 1 1)).run Tryd.prog (W.alloc (.cells #[.int .u8 x] 5)) = .ok (.string ⟨#[UInt8.ofNat (48 + k % 10)]⟩) (W.alloc (.cells #[.int .u8 x] 5)) := fun W n hn => by
        subst hn
        exact CV.out _ _ (Bx.Blk.new W [.int .u8 x] 5).all1
      have hcd := CV.out _ w.heap.size (Bx.drew_cell (Bx.Blk.new w [.int .u8 x] 5).all1)
      have hcat : ¬ (t.length + 1 > 9223372036854775807) := by omega
      have hn2 : ¬ (k : Int) < 0 := by omega
      have hn3 : ¬ (k : Int) < 10 := by omega
      clear hr hx h
      generalize UInt8.ofNat (48 + k % 10) = d at *
      go_enter Tryd.func28, Tryd.ntmps28
      go_wp2_with fail
      go_region_with (go_at_call 28; with_reducible refine (IH.out _).mono ?_; (rintro e w1 ⟨rfl, hb⟩); (try (have hcw := CV.out w1 w.heap.size (Bx.keep_cell hb (Bx.drew_cell (Bx.Blk.new w [.int .u8 x] 5).all1)))))
      all_goals have HE := Lib.hid (show Below w.heap.size w _ by first | exact Bx.bel_box (Bx.bel_drew (Bx.bel_refl w) hb) (.cells #[.int .u8 x] 5) | exact Bx.bel_drew (Bx.box_below w (.cells #[.int .u8 x] 5)) hb)
      all_goals clear hb
      all_goals go_wp2
      all_goals go_ret
      all_goals exact ⟨by rfl, HE.out⟩

set_option maxRecDepth 40000 in
theorem digits_any (n : Int) (_h0 : -9223372036854775808 ≤ n) (h1 : n ≤ 9223372036854775807) (w : World) :
    Calls Tryd.prog 28 #[.int .i64 n] w fun e w' => e = .returned (.string ⟨(numL n).toArray⟩) ∧ Below w.heap.size w w' := by
  by_cases h : n < 0
  · rw [show numL n = [45] from if_pos h]
    go_enter Tryd.func28, Tryd.ntmps28
    go_wp2
    go_ret
    exact ⟨rfl, Below.refl _ _⟩
  · obtain ⟨k, rfl⟩ : ∃ k : Nat, n = k := ⟨n.toNat, by omega⟩
    rw [show numL (k : Int) = Lib.decDigits k by unfold numL; rw [if_neg h]; rfl]
    exact digits_nat (k + 1) k (by omega) (by omega) w

end Tab
end Go.Proofs.YtfnjgjehmddkcaaDoor
