/-
  The statement PortsLists: for every set the law PortsLists returns true, and its argument reads afterwards as it read before.
-/
import Derived.Test.YtkflphnldnannaaPorAwake
import Derived.Test.YtkflphnldnannaaFrame
import Derived.Test.YtkflphnldnannaaRows
namespace Go.Proofs.Ytkflphnldnannaa
open Go.RowKit
namespace Por

theorem and_set (x : Int) : bits BinOp.and IntKind.i64 x 255 = ((low x : Nat) : Int) := by rw [and255]; unfold low; omega

/-- What the law has put together of the first k ports. -/
def accN (m k : Nat) : Nat := ((listN m 8).take k).foldl (fun (a q : Nat) => withN a (q : Int)) 0

theorem acc_fin : ∀ m : Fin 256, accN m.val (listN m.val 8).length = m.val := by decide +kernel

theorem accN_lt (m : Nat) : ∀ k, accN m k < 256 := by
  intro k
  unfold accN
  have : ∀ (l : List Nat) (a : Nat), a < 256 → l.foldl (fun (a q : Nat) => withN a (q : Int)) a < 256 := by
    intro l
    induction l with
    | nil => exact fun a h => h
    | cons q l ih => exact fun a h => ih _ (withN_lt a q h)
  exact this _ _ (by decide)

theorem ports_at (m k : Nat) (h : k < (listI m 8).length) : ∃ q : Nat, q < 8 ∧ (listI m 8)[k] = (q : Int) ∧ hasN m q = true ∧ accN m (k + 1) = withN (accN m k) (q : Int) := by
  have h1 : k < (listN m 8).length := by simpa [listI] using h
  have hm : (listN m 8)[k] ∈ listN m 8 := List.getElem_mem h1
  unfold listN at hm
  have hf := List.mem_filter.1 hm
  refine ⟨(listN m 8)[k], List.mem_range.1 hf.1, by simp [listI], hf.2, ?_⟩
  unfold accN
  rw [List.take_succ_eq_append_getElem h1, List.foldl_append]
  rfl

theorem ports_rise (m k : Nat) (h : k + 1 < (listI m 8).length) (h0 : k < (listI m 8).length) : (listI m 8)[k] < (listI m 8)[k + 1] := by
  have hp : (listN m 8).Pairwise (· < ·) := List.pairwise_lt_range.filter _
  have h1 : k + 1 < (listN m 8).length := by simpa [listI] using h
  have := List.pairwise_iff_getElem.1 hp k (k + 1) (by omega) h1 (by omega)
  simp only [listI, List.getElem_map]
  exact Int.ofNat_lt.2 this

set_option maxRecDepth 100000 in
set_option maxHeartbeats 1000000 in
theorem law_lists (w : World) (x : Int) (_wx : (Lit.int .i64 x).wf = true) :
    Calls Try.prog 6 #[.int .i64 x] w fun e w' => e = .returned (.bool true) ∧ Below w.heap.size w w' := by
  have hL := Lib.hid (list_any x)
  have hC := Lib.hid (count_any x)
  have HA := Lib.hid (awake_any)
  have HP := Lib.hid (ports_at (low x))
  have HR := Lib.hid (ports_rise (low x))
  have hand := and_set x
  have HE := Lib.hid (show accN (low x) (listI (low x) 8).length = low x by
    have := acc_fin ⟨low x, low_lt x⟩
    simpa [listI] using this)
  have hlen := listI_len (low x) 8
  have HI8 := Lib.hid (show ∀ q : Nat, q < 8 → hasN (low x) q = true → ∀ w, Calls Try.prog 12 #[.int .i64 x, .int .i64 q] w fun e w' => e = .returned (.bool true) ∧ w = w' from fun q h h1 => has_at x q h true h1)
  have HAL := Lib.hid (accN_lt (low x))
  generalize listI (low x) 8 = l at *
  go_enter Try.func6, Try.ntmps6
  go_wp2_with fail
  refine (hL.out _).mono ?_; rintro e w1 ⟨A, cap, rfl, hI, bel⟩
  have HI := Lib.hid hI
  clear hI
  go_wp2
  go_loopw [4, 11] (fun v i wr => ∃ (k a : Nat), k ≤ l.length ∧ i = .int .i64 k ∧ v = .int .i64 a ∧ a < 256 ∧ Aside (accN (low x) k = a) ∧ Aside (Below w1.heap.size w1 wr)) (fun _ i _ => l.length - (intOf i).toNat)
  case atStart => exact ⟨0, 0, Nat.zero_le _, rfl, rfl, by omega, rfl, Below.refl _ _⟩
  case round =>
    obtain ⟨k, a, hk, rfl, rfl, ha, HO, HB⟩ := hrel
    by_cases hlt : k < l.length
    · obtain ⟨ad, rfl, hab, hc⟩ := (HI.out.below HB.out).at hlt
      obtain ⟨q, hq, e1, hh, e2⟩ := HP.out k hlt
      have hH := Lib.hid (HI8.out q hq hh)
      have hW := Lib.hid (with_nat a (q : Int) ha)
      rw [HO.out] at e2
      have HO2 := Lib.hid e2
      have hwl := withN_lt a (q : Int) ha
      generalize withN a (q : Int) = a1 at *
      clear e2 hh HO
      by_cases h0 : 0 < k
      · obtain ⟨j, hj⟩ : ∃ j, k = j + 1 := ⟨k - 1, by omega⟩
        have hr := HR.out j (by omega) (by omega)
        have hjl : j < l.length := by omega
        obtain ⟨ad2, had, hab2, hc2⟩ := (HI.out.below HB.out).at hjl
        obtain rfl : ad = ad2 := by injection had
        have hkj : l[j + 1]'(by omega) = (q : Int) := by rw [← e1]; simp only [hj]
        rw [hkj] at hr
        rw [e1] at hc
        generalize l[j] = y at *
        have hj1 : (k : Int) - 1 = (j : Int) := by omega
        have hle : decide ((q : Int) ≤ y) = false := decide_eq_false (by omega)
        clear e1 had hkj hj hr
        go_wp2_with fail
        refine (hH.out _).mono ?_; rintro e w' ⟨rfl, rfl⟩
        go_wp2_with fail
        refine (hW.out _).mono ?_; rintro e w' ⟨rfl, rfl⟩
        go_wp2
        go_roundw
        case rel => exact ⟨k + 1, a1, by omega, by go_num, rfl, hwl, HO2.out, HB.out⟩
        case measure => simp [intOf]; omega
      · have hk0 : decide (0 < (k : Int)) = false := decide_eq_false (by omega)
        rw [e1] at hc
        clear e1
        go_wp2_with fail
        refine (hH.out _).mono ?_; rintro e w' ⟨rfl, rfl⟩
        go_wp2_with fail
        refine (hW.out _).mono ?_; rintro e w' ⟨rfl, rfl⟩
        go_wp2
        go_roundw
        case rel => exact ⟨k + 1, a1, by omega, by go_num, rfl, hwl, HO2.out, HB.out⟩
        case measure => simp [intOf]; omega
    · obtain rfl : k = l.length := by omega
      have hO := HO.out
      rw [HE.out] at hO
      rw [hO] at hand
      have bel2 := bel.trans (HB.out.mono bel.size)
      clear hO HO
      go_wp2_with fail
      refine (hC.out _).mono ?_; rintro e w' ⟨rfl, rfl⟩
      go_wp2_with fail
      refine (HA.out _).mono ?_; rintro e w3 ⟨rfl, hb3⟩
      go_wp2
      go_ret
      exact ⟨rfl, bel2.trans (hb3.mono bel2.size)⟩

end Por

namespace LawPortsLists
open Go.ChangeShapes Go.WideShapes Go.ChangeAt Go.RowKit
open Go.ChangeMaps (open_string shut_string)

theorem own : ownKnob Try.prog.godebug = none := by kernel_rfl
theorem laidOut : laidOutB Try.prog = true := by kernel_rfl

set_option maxRecDepth 100000 in
theorem lifted (os : Os) (started : os.Started) (H : Type) (enc : TypeId × Value → H) :
    ReturnsInHanded {} Try.checked os 6 .any (Rows.portsListsSpec.pre6 enc Try.prog Try.f6 Rows.portsListsRow.domain false) (Rows.portsListsSpec.post enc Try.prog Try.f6 false true false false) := by
  refine Fr.law_lift (C := Try.checked) (tb := 4) own started (by kernel_rfl) Try.func6
    (ChangeSpec.witness6 (enc := enc) (C := Try.checked) false ⟨#[], #[.int .i64 0], []⟩ 8 (by kernel_rfl) (by kernel_rfl) (by kernel_rfl) (by kernel_rfl))
    laidOut (by rw [Try.params6]; decide +kernel) rfl Try.underlying4 rfl ?_ ?_
  · intro ds hl
    match ds, hl with
    | [d0], _ => rfl
  · intro W base args ds p hval hA
    rw [Try.params6] at hA hval
    obtain ⟨v0, vs0, d0, ds0, p0, q0, hargs, rfl, rfl, h0, r0⟩ := trodAll_cons hA
    obtain ⟨rfl, rfl, rfl⟩ := trodAll_nil r0
    obtain rfl : args = #[v0] := by cases args; simp_all
    obtain ⟨a0, rfl, rfl, rfl, w0⟩ := open_int Try.underlying3 (hval 0 3 v0 rfl rfl) h0
    exact Por.law_lists W a0 w0

theorem over : Rows.portsListsRow.holds Try.pinned (OpenSpec.ofChange Rows.portsListsSpec) :=
  OpenClaim.holds_of_wide 6 Try.f6 rfl rfl rfl rfl rfl rfl rfl ⟨rfl, rfl, rfl, rfl, rfl⟩ rfl rfl rfl rfl rfl (by kernel_rfl) Try.func6 (by kernel_rfl)
    (of_decide_eq_true (by kernel_rfl)) (by unfold Func.isWrapper; first | (rw [if_pos (by decide +kernel)]; kernel_rfl) | (rw [if_neg (by decide +kernel)]; exact ⟨rfl, rfl⟩))
    (fun os started H enc _ => lifted os started H enc)
end LawPortsLists

/-- The statement PortsLists. -/
theorem portsLists_holds : Rows.PortsListsSaid := LawPortsLists.over
end Go.Proofs.Ytkflphnldnannaa
