/-
  strconv.FormatUint to base ten; prefer.digits and Text, and the document's; Hops.
-/
import Derived.Test.YtkggphonoihidaaDoorDecA
import Derived.Test.YtkggphonoihidaaDoorPreD
import Derived.Deep.RegionWith
namespace Go.Proofs.YtkggphonoihidaaDoor
open Go.RowKit
namespace Pre
open Oct Dec Go.Sort

set_option maxRecDepth 100000 in
set_option maxHeartbeats 4000000 in
theorem fmt_any (u : Nat) (hu : u < 18446744073709551616) (w : World) (hH : Home w) :
    Calls Tryd.prog 37 #[.int .u64 u, .int .i64 10] w fun e w' => e = .returned (.string ⟨(Lib.decDigits u).toArray⟩) ∧ Below w.heap.size w w' := by
  by_cases hs : u < 100
  · have HC := Lib.hid (Tryd.internal_strconv_small u hs)
    have q1 : (u : Int) < 100 := by omega
    go_enter Tryd.func37, Tryd.ntmps37
    go_wp2_with fail
    refine (HC.out _).mono ?_; rintro e w' ⟨rfl, rfl⟩
    go_wp2
    go_ret
    exact ⟨rfl, Below.refl _ _⟩
  · have hu1 : 1 ≤ u := by omega
    have q1 : ¬ (u : Int) < 100 := by omega
    have hnd20 : Lib.nDigits u ≤ 20 := Lib.nDigits_le20 u hu
    have hb3 : Lib.nDigits u ≤ 24 := by omega
    have hal : Tryd.prog.arrayLen 59 = 24 := by kernel_rfl
    have hsl1 : ∀ W, (Instr.sliceAt 59 (.pointer (some ⟨w.heap.size, 0, none⟩)) none (some (.int .i64 (Lib.nDigits u : Int))) none).run Tryd.prog W = .ok (.slice (some ⟨w.heap.size, 0, none⟩) (Lib.nDigits u) 24) W := fun W => by
      rw [run_sliceAt_array_h W 59 ⟨w.heap.size, 0, none⟩ (by kernel_rfl) .i64 (Lib.nDigits u : Int) (by omega) (by rw [hal]; omega)]
      go_simp
    have hH0 := Lib.holds_zero0 w 59 (Lib.nDigits u) (by omega)
    have hfmt := Tryd.internal_strconv_formatBase10 w.heap.size 0 24 u (Array.replicate (Lib.nDigits u) 0) (w.alloc (.cells Lib.zeros24 59)) hH0 (by rw [Array.size_replicate]; exact Lib.lt_pow_nDigits u) hu (by rw [Array.size_replicate]; omega)
    rw [Array.size_replicate] at hfmt
    have HH0 := Lib.hid hH0
    have HF := Lib.hid hfmt
    have HND := Lib.hid (Tryd.internal_strconv_numDigits u hu1 hu (w.alloc (.cells Lib.zeros24 59)) (hH.below (Bx.box_below w _)).1)
    clear hH0 hfmt hal hs
    go_enter Tryd.func37, Tryd.ntmps37
    go_wp2_with fail
    refine HND.out.mono ?_; rintro e w' ⟨rfl, rfl⟩
    go_wp2_with fail
    refine HF.out.mono ?_; rintro e w' ⟨rfl, k, v', dk, rfl, hF⟩
    have hcv : (convert 50 9 (.slice (some ⟨w.heap.size, 0, none⟩) (Lib.nDigits u) 24)).run Tryd.prog ((putRow (fun (b : UInt8) => Value.int .u8 (b.toNat : Int)) (w.alloc (.cells Lib.zeros24 59)) w.heap.size 0 dk).drewN k) = .ok (.string ⟨(Lib.decDigits u).toArray⟩) ((putRow (fun (b : UInt8) => Value.int .u8 (b.toNat : Int)) (w.alloc (.cells Lib.zeros24 59)) w.heap.size 0 dk).drewN k) := by
      have h := run_convert_bytes_back (P := Tryd.prog) ((putRow (fun (b : UInt8) => Value.int .u8 (b.toNat : Int)) (w.alloc (.cells Lib.zeros24 59)) w.heap.size 0 dk).drewN k) 50 9 5 ⟨w.heap.size, 0, none⟩ 24 (Lib.decDigits u) Tryd.underlying50 Tryd.underlying5 Tryd.underlying9 (fun j hj => by
        rw [Lib.row_is_numeral hF j hj, Lib.add_plain, World.cell?_drewN]
        exact cell?_putRow (fun (b : UInt8) => Value.int .u8 (b.toNat : Int)) _ w.heap.size 0 _ dk HH0.out (by rw [hF.size, Array.size_replicate]) j (by rw [hF.size]; rw [Lib.decDigits_length] at hj; exact hj))
      rw [Lib.decDigits_length] at h
      exact h
    obtain ⟨os, eo⟩ := Lib.fin_at w (.cells Lib.zeros24 59) dk k 0
    have HB : Hid (Below w.heap.size w ((putRow (fun (b : UInt8) => Value.int .u8 (b.toNat : Int)) (w.alloc (.cells Lib.zeros24 59)) w.heap.size 0 dk).drewN k)) := Lib.hid (by rw [eo]; exact Lib.below_grow _ w (Nat.le_refl _) k os)
    clear eo
    generalize (putRow (fun (b : UInt8) => Value.int .u8 (b.toNat : Int)) (w.alloc (.cells Lib.zeros24 59)) w.heap.size 0 dk).drewN k = W2 at *
    go_wp2
    go_ret
    exact ⟨rfl, HB.out⟩

set_option maxRecDepth 20000 in
theorem digits_any (u : Nat) (hu : u < 18446744073709551616) (w : World) (hH : Home w) :
    Calls Tryd.prog 21 #[.int .u64 u] w fun e w' => e = .returned (.string ⟨(Lib.decDigits u).toArray⟩) ∧ Below w.heap.size w w' := by
  have HF : Hid (Calls Tryd.prog 30 #[.int .u64 u, .int .i64 10] w fun e w' => e = .returned (.string ⟨(Lib.decDigits u).toArray⟩) ∧ Below w.heap.size w w') := Lib.hid (by
    have HG := Lib.hid (fmt_any u hu w hH)
    generalize (Lib.decDigits u).toArray = t at *
    clear hu hH
    go_enter Tryd.func30, Tryd.ntmps30
    go_wp2_with fail
    refine HG.out.mono ?_; rintro e w1 ⟨rfl, hb⟩
    go_wp2
    go_ret
    exact ⟨rfl, hb⟩)
  generalize (Lib.decDigits u).toArray = t at *
  clear hu hH
  go_enter Tryd.func21, Tryd.ntmps21
  go_wp2_with fail
  refine HF.out.mono ?_; rintro e w1 ⟨rfl, hb⟩
  go_wp2
  go_ret
  exact ⟨rfl, hb⟩

/-- string(b), b a slice of one byte, whatever else the memory holds. -/
theorem conv_one (W : World) (k : Nat) (x : Int) (m : Nat) (hx : x = (m % 256 : Nat)) (h : W.cell? ⟨k, 0, none⟩ = some (.int .u8 x)) :
    (convert 50 9 (.slice (some ⟨k, 0, none⟩) 1 1)).run Tryd.prog W = .ok (.string ⟨#[UInt8.ofNat m]⟩) W := by
  refine run_convert_bytes_back W 50 9 5 ⟨k, 0, none⟩ 1 [UInt8.ofNat m] Tryd.underlying50 Tryd.underlying5 Tryd.underlying9 fun j hj => ?_
  match j, hj with
  | 0, _ =>
    simp [Addr.add, h]
    omega

set_option maxRecDepth 40000 in
theorem rdigits_nat : ∀ (f k : Nat), k < f → k < 18446744073709551616 → ∀ (w : World), Calls Tryd.prog 23 #[.int .u64 k] w fun e w' => e = .returned (.string ⟨(Lib.decDigits k).toArray⟩) ∧ Below w.heap.size w w' := by
  intro f
  induction f with
  | zero => intro k hk; omega
  | succ f ih =>
    intro k hk hk2 w
    by_cases h : k < 10
    · rw [Lib.decDigits_one h]
      have hcv := conv_one (w.alloc (.cells #[.int .u8 (48 + (k : Int))] 5)) w.heap.size (48 + (k : Int)) (48 + k) (by omega) (Bx.Blk.new w [.int .u8 (48 + (k : Int))] 5).all1
      generalize UInt8.ofNat (48 + k) = d at *
      go_enter Tryd.func23, Tryd.ntmps23
      go_wp2
      go_ret
      exact ⟨rfl, Bx.box_below _ _⟩
    · have IH := Lib.hid (fun w => ih (k / 10) (by omega) (by omega) w)
      rw [show (((k / 10 : Nat) : Nat) : Int) = (k : Int) / 10 by omega] at IH
      have e : Lib.decDigits k = Lib.decDigits (k / 10) ++ [UInt8.ofNat (48 + k % 10)] := by rw [Lib.decDigits, dif_neg h]
      rw [e]
      have hlen : (Lib.decDigits (k / 10)).length ≤ 100 := by
        have h1 := Lib.nDigits_le20 (k / 10) (by omega)
        rw [Lib.decDigits_length]
        omega
      clear e ih hk
      generalize Lib.decDigits (k / 10) = t at *
      have q1 : IntKind.u64.wrap ((k : Int) / 10) = (k : Int) / 10 := by rw [IntKind.wrap_u64]; omega
      obtain ⟨r, q2, hr⟩ : ∃ r : Int, (k : Int).tmod 10 = r ∧ r = ((k % 10 : Nat) : Int) := ⟨_, rfl, by rw [Int.tmod_eq_emod_of_nonneg (by omega)]; omega⟩
      obtain ⟨x, q3, hx⟩ : ∃ x : Int, IntKind.u64.wrap (48 + r) = x ∧ x = ((48 + k % 10 : Nat) : Int) := ⟨_, rfl, by rw [IntKind.wrap_u64]; omega⟩
      have q4 : IntKind.u8.wrap x = x := by rw [IntKind.wrap_u8]; omega
      have CV := Lib.hid (fun W n => conv_one W n x (48 + k % 10) (by omega))
      have hcv : ∀ (W : World) (n : Nat), n = W.heap.size → (convert 50 9 (.slice (some ⟨n, 0, none⟩) 1 1)).run Tryd.prog (W.alloc (.cells #[.int .u8 x] 5)) = .ok (.string ⟨#[UInt8.ofNat (48 + k % 10)]⟩) (W.alloc (.cells #[.int .u8 x] 5)) := fun W n hn => by
        subst hn
        exact CV.out _ _ (Bx.Blk.new W [.int .u8 x] 5).all1
      have hcd := CV.out _ w.heap.size (Bx.drew_cell (Bx.Blk.new w [.int .u8 x] 5).all1)
      have hcat : ¬ (t.length + 1 > 9223372036854775807) := by omega
      have hn2 : ¬ (k : Int) < 0 := by omega
      have hn3 : ¬ (k : Int) < 10 := by omega
      clear hr hx h
      generalize UInt8.ofNat (48 + k % 10) = d at *
      go_enter Tryd.func23, Tryd.ntmps23
      go_wp2_with fail
      go_region_with (go_at_call 23; with_reducible refine (IH.out _).mono ?_; (rintro e w1 ⟨rfl, hb⟩); (try (have hcw := CV.out w1 w.heap.size (Bx.keep_cell hb (Bx.drew_cell (Bx.Blk.new w [.int .u8 x] 5).all1)))))
      all_goals have HE := Lib.hid (show Below w.heap.size w _ by first | exact Bx.bel_box (Bx.bel_drew (Bx.bel_refl w) hb) (.cells #[.int .u8 x] 5) | exact Bx.bel_drew (Bx.box_below w (.cells #[.int .u8 x] 5)) hb)
      all_goals clear hb
      all_goals go_wp2
      all_goals go_ret
      all_goals exact ⟨by rfl, HE.out⟩

end Pre
end Go.Proofs.YtkggphonoihidaaDoor
