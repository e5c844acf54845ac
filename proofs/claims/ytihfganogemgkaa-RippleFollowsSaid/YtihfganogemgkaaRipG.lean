/-
  The law's awake.
-/
import Derived.Test.YtihfganogemgkaaRipF
import Derived.Test.YtihfganogemgkaaRipC
import Derived.Test.YtihfganogemgkaaEltI
import Derived.Test.YtihfganogemgkaaEltF
import Derived.Test.YtihfganogemgkaaRspD
import Derived.Deep.DeepCutAuto
namespace Go.Proofs.Ytihfganogemgkaa
open Go.RowKit
namespace Rip
open Pre Crd Tre Elt

abbrev bp5 : Bd := ⟨2, false, true, 3, false, false, false, false, ⟨5, 0, 5, 1⟩, ⟨0, 6, 1, 3⟩⟩
def re1 : Td := eleT al7
def ru1 : Td := setT re1
def rc2 : Cd := Rsp.recvC (ru1.cs 2) bp5
def rv1 : Td := putT ru1 2 rc2
def rv2 : Td := eleT rv1
def rv3 : Td := setT rv2
def rw1 : Td := putT ru1 1 { ru1.cs 1 with agd := true }
def rw2 : Td := setT rw1

theorem u_is : (ru1.cs 0).png = true ∧ opeI ru1 8 = 0 := by decide +kernel
theorem v_is : (rv3.cs 2).st = 2 ∧ (rv3.cs 2).agr = true ∧ (rv3.cs 2).prd = false ∧ opeI rv3 8 = 4 := by decide +kernel
theorem w_is : (rw2.cs 1).st = 2 ∧ leaI rw2 8 = 2 ∧ heldB rw2 1 = true ∧ heldB rw2 0 = false := by decide +kernel

set_option maxRecDepth 40000 in
set_option maxHeartbeats 8000000 in
theorem awake_any (w : World) : Calls Try.prog 8 #[] w fun e w' => e = .returned (.bool true) ∧ Below w.heap.size w w' := by
  have HA := Lib.hid alone_any
  have HE1 : Hid (∀ w, Calls Try.prog 4 #[tdv al7] w fun e w' => e = .returned (tdv re1) ∧ Below w.heap.size w w') := Lib.hid (elect_any al7)
  have HS1 : Hid (∀ w, Calls Try.prog 5 #[tdv re1] w fun e w' => e = .returned (tdv ru1) ∧ Below w.heap.size w w') := Lib.hid (settle_any re1)
  have HE2 : Hid (∀ w, Calls Try.prog 4 #[tdv rv1] w fun e w' => e = .returned (tdv rv2) ∧ Below w.heap.size w w') := Lib.hid (elect_any rv1)
  have HS2 : Hid (∀ w, Calls Try.prog 5 #[tdv rv2] w fun e w' => e = .returned (tdv rv3) ∧ Below w.heap.size w w') := Lib.hid (settle_any rv2)
  have HS3 : Hid (∀ w, Calls Try.prog 5 #[tdv rw1] w fun e w' => e = .returned (tdv rw2) ∧ Below w.heap.size w w') := Lib.hid (settle_any rw1)
  have HO : Hid (∀ w, Calls Try.prog 18 #[.int .u64 5] w fun e w' => e = .returned (vv ⟨5, 0, 5, 0⟩) ∧ Below w.heap.size w w') := Lib.hid (own_any 5)
  have HD : Hid (∀ w, Calls Try.prog 17 #[vv ⟨5, 0, 5, 0⟩, .int .u64 5, .int .i64 1] w fun e w' => e = .returned (vv ⟨5, 0, 5, 1⟩) ∧ Below w.heap.size w w') := Lib.hid (fun w => des_any ⟨5, 0, 5, 0⟩ 5 1 w)
  have HC : Hid (∀ w, Calls Try.prog 16 #[cdv (ru1.cs 2), .agg #[.int .i64 2, .bool false, .bool true, .int .i64 3, .bool false, .bool false, .bool false, .bool false, .int .u64 5, .int .u64 0, .int .u64 5, .int .i64 1, .int .i64 0, .int .i64 6, .int .i64 1, .int .i64 3]] w fun e w' => e = .returned (.tuple #[cdv rc2, .int .i64 (Rsp.sortI (ru1.cs 2) bp5)]) ∧ Below w.heap.size w w') := Lib.hid (fun w => Rsp.recv_any (ru1.cs 2) bp5 (by decide) (by decide) w)
  obtain ⟨hu1, hu2⟩ := u_is
  obtain ⟨hv1, hv2, hv3, hv4⟩ := v_is
  obtain ⟨hw1, hw2, hw3, hw4⟩ := w_is
  have P1 : Hid (∀ w, Calls Try.prog 6 #[tdv ru1] w fun e w' => e = .returned (.int .i64 0) ∧ Below w.heap.size w w') := Lib.hid (fun w => by have h := open_any ru1 w; rw [hu2] at h; exact h)
  have P2 : Hid (∀ w, Calls Try.prog 6 #[tdv rv3] w fun e w' => e = .returned (.int .i64 4) ∧ Below w.heap.size w w') := Lib.hid (fun w => by have h := open_any rv3 w; rw [hv4] at h; exact h)
  have P3 : Hid (∀ w, Calls Try.prog 7 #[tdv rw2] w fun e w' => e = .returned (.int .i64 2) ∧ Below w.heap.size w w') := Lib.hid (fun w => by have h := learn_any rw2 w; rw [hw2] at h; exact h)
  have P4 : Hid (∀ w, Calls Try.prog 19 #[tdv rw2, .int .i64 1] w fun e w' => e = .returned (.bool true) ∧ Below w.heap.size w w') := Lib.hid (fun w => by have h := held_any rw2 1 w; rw [hw3] at h; exact h)
  have P5 : Hid (∀ w, Calls Try.prog 19 #[tdv rw2, .int .i64 0] w fun e w' => e = .returned (.bool false) ∧ Below w.heap.size w w') := Lib.hid (fun w => by have h := held_any rw2 0 w; rw [hw4] at h; exact h)
  have P6 : Hid (∀ w, Calls Try.prog 13 #[tdv rw2, .int .i64 9] w fun e w' => e = .returned (tdv rw2) ∧ Below w.heap.size w w') := Lib.hid (fun w => step_out rw2 9 w (by omega))
  clear hu2 hv4 hw2 hw3 hw4
  replace hu1 := Lib.hid hu1
  replace hv1 := Lib.hid hv1
  replace hv2 := Lib.hid hv2
  replace hv3 := Lib.hid hv3
  replace hw1 := Lib.hid hw1
  have HZ := Lib.hid (@zero_at)
  have hal := zero_at
  go_enter Try.func8, Try.ntmps8
  go_wp2_with fail
  refine (HA.out _).mono ?_; rintro e w1 ⟨rfl, hb⟩
  have bel := Lib.hid hb
  clear hb
  go_wp2_with fail
  refine (HE1.out _).mono ?_; rintro e w2 ⟨rfl, hb⟩
  replace bel := Lib.hid (Bx.then_below bel.out hb)
  clear hb
  have hwT1 : w.heap.size ≤ w2.heap.size := bel.out.size
  have T1 : Hid (Bx.Fre (w2.alloc (tdo re1)) w2.heap.size (tdl re1)) := Lib.hid (Bx.Fre.new w2 (tdl re1) 31)
  replace bel := Lib.hid (Bx.bel_box bel.out (tdo re1))
  go_upto_region 2 with (first | ((with_reducible refine td_fresh ?_ ?_ (w2.heap.size) re1 ?_ ?_ w2 (tdl Td.zero) ?_ ?_ ?_ ?_); (· rfl); (· rfl); (· rfl); (· rfl); (· exact tdl_len _); (· rfl); (· first | rfl | (simp; done))))
  obtain ⟨kT1, hkT1⟩ : ∃ k, k = w2.heap.size := ⟨_, rfl⟩
  rw [← hkT1] at T1 hwT1 ⊢
  generalize (w2.alloc (tdo re1)) = WT1 at *
  clear hkT1
  clear hal
  go_wp2_with (first | ((with_reducible refine td_load ?_ ?_ (kT1) ?_ re1 ?_ ?_); (· rfl); (· rfl); (· rfl); (· exact T1.out.blk)) | ((with_reducible refine cs_load ?_ ?_ (kT1) ?_ re1 ?_ ?_); (· rfl); (· rfl); (· rfl); (· exact T1.out.blk)))
  refine (HS1.out _).mono ?_; rintro e w3 ⟨rfl, hb⟩
  replace T1 := Lib.hid (T1.out.keep hb)
  replace bel := Lib.hid (Bx.then_below bel.out hb)
  clear hb
  have hal := HZ.out
  have hT1T2 : kT1 < w3.heap.size := T1.out.2.1
  have hwT2 : w.heap.size ≤ w3.heap.size := bel.out.size
  replace T1 := Lib.hid (T1.out.more (tdo ru1))
  have T2 : Hid (Bx.Fre (w3.alloc (tdo ru1)) w3.heap.size (tdl ru1)) := Lib.hid (Bx.Fre.new w3 (tdl ru1) 31)
  replace bel := Lib.hid (Bx.bel_box bel.out (tdo ru1))
  go_upto_region 3 with (first | ((with_reducible refine td_fresh ?_ ?_ (w3.heap.size) ru1 ?_ ?_ w3 (tdl Td.zero) ?_ ?_ ?_ ?_); (· rfl); (· rfl); (· rfl); (· rfl); (· exact tdl_len _); (· rfl); (· first | rfl | (simp; done))))
  obtain ⟨kT2, hkT2⟩ : ∃ k, k = w3.heap.size := ⟨_, rfl⟩
  rw [← hkT2] at T2 hT1T2 hwT2 ⊢
  generalize (w3.alloc (tdo ru1)) = WT2 at *
  clear hkT2
  have X2 := T2
  have hT1T3 : kT1 < WT2.heap.size := T1.out.2.1
  have hT2T3 : kT2 < WT2.heap.size := T2.out.2.1
  have hwT3 : w.heap.size ≤ WT2.heap.size := bel.out.size
  replace T1 := Lib.hid (T1.out.more (tdo ru1))
  replace T2 := Lib.hid (T2.out.more (tdo ru1))
  have T3 : Hid (Bx.Fre (WT2.alloc (tdo ru1)) WT2.heap.size (tdl ru1)) := Lib.hid (Bx.Fre.new WT2 (tdl ru1) 31)
  replace bel := Lib.hid (Bx.bel_box bel.out (tdo ru1))
  go_upto_region 4 with (first | ((with_reducible refine td_fresh ?_ ?_ (WT2.heap.size) ru1 ?_ ?_ WT2 (tdl Td.zero) ?_ ?_ ?_ ?_); (· rfl); (· rfl); (· rfl); (· rfl); (· exact tdl_len _); (· rfl); (· first | rfl | (simp; done))) | ((with_reducible refine td_load ?_ ?_ (kT2) ?_ ru1 ?_ ?_); (· rfl); (· rfl); (· rfl); (· exact X2.out.blk)))
  obtain ⟨kT3, hkT3⟩ : ∃ k, k = WT2.heap.size := ⟨_, rfl⟩
  rw [← hkT3] at T3 hT1T3 hT2T3 hwT3 ⊢
  generalize (WT2.alloc (tdo ru1)) = WT3 at *
  clear hkT3
  clear X2 hal
  try simp only [Act.put]
  go_cut [22] (fun _ wx => Below w.heap.size w wx ∧ Bx.Fre wx kT1 (tdl re1) ∧ Bx.Fre wx kT2 (tdl ru1) ∧ Bx.Fre wx kT3 (tdl rv1))
  case first =>
    refine wp_region_noPanic ?_
    refine wp_region_held_drew (S := fun w' => Bx.Blk w' kT2 (tdl ru1)) (by kernel_rfl) (by exact T2.out.blk) (fun hHeld => ?_)
    refine wpAnyH_take (i := 0) (oi := ?ot1x1) (v := ?vt1x1) ?hit1x1 (by kernel_rfl) (by kernel_rfl) (by kernel_rfl) (fun _ _ _ h => h) ?yt1x1 (by assumption) ?rt1x1
    case hit1x1 => (simp only [List.getElem?_toArray, List.getElem?_cons_zero]; rfl)
    case yt1x1 => (refine Or.inl ⟨by rfl, ?_⟩; intro w' hSw; (try dsimp only at hSw); go_simp; (try with_reducible rfl))
    try simp only [Act.put, List.setIfInBounds_toArray, List.set_cons_zero, List.set_cons_succ]
    refine wpAnyH_take (i := 1) (oi := ?ot1x2) (v := ?vt1x2) ?hit1x2 (by kernel_rfl) (by kernel_rfl) (by kernel_rfl) (fun _ _ _ h => h) ?yt1x2 (by assumption) ?rt1x2
    case hit1x2 => (simp only [List.getElem?_toArray, List.getElem?_cons_succ, List.getElem?_cons_zero]; rfl)
    case yt1x2 => (refine Or.inl ⟨by rfl, ?_⟩; intro w' hSw; (try dsimp only at hSw); go_simp; (try with_reducible rfl))
    try simp only [Act.put, List.setIfInBounds_toArray, List.set_cons_zero, List.set_cons_succ]
    refine wpAnyH_take (i := 10) (oi := ?ot1x3) (v := ?vt1x3) ?hit1x3 (by kernel_rfl) (by kernel_rfl) (by kernel_rfl) (fun _ _ _ h => h) ?yt1x3 (by assumption) ?rt1x3
    case hit1x3 => (simp only [List.getElem?_toArray, List.getElem?_cons_succ, List.getElem?_cons_zero]; rfl)
    case yt1x3 => (refine Or.inl ⟨by rfl, ?_⟩; intro w' hSw; (try dsimp only at hSw); go_simp; (try with_reducible rfl))
    try simp only [Act.put, List.setIfInBounds_toArray, List.set_cons_zero, List.set_cons_succ]
    refine wpAnyH_ready (rs := [2, 3]) (by kernel_rfl) (by simp) ?_
    refine AllReadyH.cons (o := ?ot1x4) ?hit1x4 ?hstt1x4 (AllReadyH.cons (o := ?ot1x5) ?hit1x5 ?hstt1x5 AllReadyH.nil)
    case hit1x4 => (simp only [List.getElem?_toArray, List.getElem?_cons_succ, List.getElem?_cons_zero]; rfl)
    case hit1x5 => (simp only [List.getElem?_toArray, List.getElem?_cons_succ, List.getElem?_cons_zero]; rfl)
    case hstt1x4 =>
      intro K hK
      rw [if_pos (by rfl)]
      refine ccr_wp rfl (kT3) 2 (by omega) rfl ru1 T3.out.drew.blk ?_
      refine hK.out _ _ hHeld (fun _ => ?_)
      clear hK K
      try simp only [Act.put, List.setIfInBounds_toArray, List.set_cons_zero, List.set_cons_succ]
      refine wpAnyH_ready (rs := [3]) (by kernel_rfl) (by simp) ?_
      refine AllReadyH.cons (o := ?ot1x7) ?hit1x7 ?hstt1x7 AllReadyH.nil
      case hit1x7 => (simp only [List.getElem?_toArray, List.getElem?_cons_succ, List.getElem?_cons_zero]; rfl)
      intro K hK
      go_simp
      (go_at_call 18; (with_reducible refine (HO.out _).mono ?_); rintro e vt1x8 ⟨rfl, hb⟩)
      go_wp2_with fail
      refine hK.out _ _ (by exact Bx.Blk.keep hHeld hb) (fun hNew => ?_)
      clear hHeld
      have hHeld := hNew
      clear hNew hK K
      replace bel := Lib.hid (Bx.then_below (Bx.bel_drewn bel.out) hb)
      replace T1 := Lib.hid (T1.out.drew.keep hb)
      replace T2 := Lib.hid (T2.out.drew.keep hb)
      replace T3 := Lib.hid (T3.out.drew.keep hb)
      clear hb
      refine wpAnyH_ready (rs := [4]) (by kernel_rfl) (by simp) ?_
      refine AllReadyH.cons (o := ?ot1x9) ?hit1x9 ?hstt1x9 AllReadyH.nil
      case hit1x9 => (simp only [List.getElem?_toArray, List.getElem?_cons_succ, List.getElem?_cons_zero]; rfl)
      intro K hK
      go_simp
      (go_at_call 17; (with_reducible refine (HD.out _).mono ?_); rintro e vt1x10 ⟨rfl, hb⟩)
      go_wp2_with fail
      refine hK.out _ _ (by exact Bx.Blk.keep hHeld hb) (fun hNew => ?_)
      clear hHeld
      have hHeld := hNew
      clear hNew hK K
      replace bel := Lib.hid (Bx.then_below bel.out hb)
      replace T1 := Lib.hid (T1.out.keep hb)
      replace T2 := Lib.hid (T2.out.keep hb)
      replace T3 := Lib.hid (T3.out.keep hb)
      clear hb
      refine wpAnyH_take (i := 5) (oi := ?ot1x11) (v := ?vt1x11) ?hit1x11 (by kernel_rfl) (by kernel_rfl) (by kernel_rfl) (fun _ _ _ h => h) ?yt1x11 (by assumption) ?rt1x11
      case hit1x11 => (simp only [List.getElem?_toArray, List.getElem?_cons_succ, List.getElem?_cons_zero]; rfl)
      case yt1x11 => (refine Or.inl ⟨by rfl, ?_⟩; intro w' hSw; (try dsimp only at hSw); go_simp; (try with_reducible rfl))
      try simp only [Act.put, List.setIfInBounds_toArray, List.set_cons_zero, List.set_cons_succ]
      refine wpAnyH_ready (rs := [6]) (by kernel_rfl) (by simp) ?_
      refine AllReadyH.cons (o := ?ot1x12) ?hit1x12 ?hstt1x12 AllReadyH.nil
      case hit1x12 => (simp only [List.getElem?_toArray, List.getElem?_cons_succ, List.getElem?_cons_zero]; rfl)
      intro K hK
      go_simp
      (go_at_call 16; (with_reducible refine (HC.out _).mono ?_); rintro e vt1x13 ⟨rfl, hb⟩)
      go_wp2_with fail
      refine hK.out _ _ (by exact Bx.Blk.keep hHeld hb) (fun hNew => ?_)
      clear hHeld
      have hHeld := hNew
      clear hNew hK K
      replace bel := Lib.hid (Bx.then_below bel.out hb)
      replace T1 := Lib.hid (T1.out.keep hb)
      replace T2 := Lib.hid (T2.out.keep hb)
      replace T3 := Lib.hid (T3.out.keep hb)
      clear hb
      refine wpAnyH_take (i := 7) (oi := ?ot1x14) (v := ?vt1x14) ?hit1x14 (by kernel_rfl) (by kernel_rfl) (by kernel_rfl) (fun _ _ _ h => h) ?yt1x14 (by assumption) ?rt1x14
      case hit1x14 => (simp only [List.getElem?_toArray, List.getElem?_cons_succ, List.getElem?_cons_zero]; rfl)
      case yt1x14 => (refine Or.inl ⟨by rfl, ?_⟩; intro w' hSw; (try dsimp only at hSw); go_simp; (try with_reducible rfl))
      try simp only [Act.put, List.setIfInBounds_toArray, List.set_cons_zero, List.set_cons_succ]
      refine wpAnyH_take (i := 8) (oi := ?ot1x15) (v := ?vt1x15) ?hit1x15 (by kernel_rfl) (by kernel_rfl) (by kernel_rfl) (fun _ _ _ h => h) ?yt1x15 (by assumption) ?rt1x15
      case hit1x15 => (simp only [List.getElem?_toArray, List.getElem?_cons_succ, List.getElem?_cons_zero]; rfl)
      case yt1x15 => (refine Or.inl ⟨by rfl, ?_⟩; intro w' hSw; (try dsimp only at hSw); go_simp; (try with_reducible rfl))
      try simp only [Act.put, List.setIfInBounds_toArray, List.set_cons_zero, List.set_cons_succ]
      refine wpAnyH_take (i := 9) (oi := ?ot1x16) (v := ?vt1x16) ?hit1x16 (by kernel_rfl) (by kernel_rfl) (by kernel_rfl) (fun _ _ _ h => h) ?yt1x16 (by assumption) ?rt1x16
      case hit1x16 => (simp only [List.getElem?_toArray, List.getElem?_cons_succ, List.getElem?_cons_zero]; rfl)
      case yt1x16 => (refine Or.inl ⟨by rfl, ?_⟩; intro w' hSw; (try dsimp only at hSw); go_simp; (try with_reducible rfl))
      try simp only [Act.put, List.setIfInBounds_toArray, List.set_cons_zero, List.set_cons_succ]
      refine wpAnyH_take (i := 11) (oi := ?ot1x17) (v := ?vt1x17) ?hit1x17 (by kernel_rfl) (by kernel_rfl) (by kernel_rfl) (fun _ _ _ h => h) ?yt1x17 (by assumption) ?rt1x17
      case hit1x17 => (simp only [List.getElem?_toArray, List.getElem?_cons_succ, List.getElem?_cons_zero]; rfl)
      case yt1x17 => (refine Or.inl ⟨by rfl, ?_⟩; intro w' hSw; (try dsimp only at hSw); go_simp; (try with_reducible rfl))
      try simp only [Act.put, List.setIfInBounds_toArray, List.set_cons_zero, List.set_cons_succ]
      refine wpAnyH_ready (rs := [12]) (by kernel_rfl) (by simp) ?_
      refine AllReadyH.cons (o := ?ot1x18) ?hit1x18 ?hstt1x18 AllReadyH.nil
      case hit1x18 => (simp only [List.getElem?_toArray, List.getElem?_cons_succ, List.getElem?_cons_zero]; rfl)
      intro K hK
      rw [if_pos (by rfl)]
      refine cc_wp rfl (kT3) 2 (by omega) rfl rc2 rfl ru1 T3.out ?_
      refine hK.out _ _ (by exact Bx.Blk.apart_at _ _ (by omega) hHeld) (fun hNew => ?_)
      clear hHeld
      have hHeld := hNew
      clear hNew hK K
      try simp only [Act.put]
      replace bel := Lib.hid (Bx.bel_put_at (k := kT3) (cdl rc2) (14 + 2 * 31) (by omega) bel.out)
      replace T1 := Lib.hid (T1.out.apart_at (k' := kT3) (cdl rc2) (14 + 2 * 31) (by omega))
      replace T2 := Lib.hid (T2.out.apart_at (k' := kT3) (cdl rc2) (14 + 2 * 31) (by omega))
      replace T3 := Lib.hid ((Bx.Fre.put_at (cdl rc2) (14 + 2 * 31) T3.out).of (m := tdl rv1) (tdl_upd ru1 2 (by omega) rc2))
      generalize vt1x13.setCells (kT3) (14 + 2 * 31) (cdl rc2) = vt1x19 at *
      refine wpAnyH_done (by kernel_rfl) ?_ _
      refine NoPanic.normal ?_
      go_wp2_with fail
      go_meet
      exact ⟨bel.out, T1.out, T2.out, T3.out⟩
    case hstt1x5 =>
      intro K hK
      go_simp
      (go_at_call 18; (with_reducible refine (HO.out _).mono ?_); rintro e vt1x20 ⟨rfl, hb⟩)
      go_wp2_with fail
      refine hK.out _ _ (by exact Bx.Blk.keep hHeld hb) (fun hNew => ?_)
      clear hHeld
      have hHeld := hNew
      clear hNew hK K
      replace bel := Lib.hid (Bx.then_below (Bx.bel_drewn bel.out) hb)
      replace T1 := Lib.hid (T1.out.drew.keep hb)
      replace T2 := Lib.hid (T2.out.drew.keep hb)
      replace T3 := Lib.hid (T3.out.drew.keep hb)
      clear hb
      refine wpAnyH_ready (rs := [2, 4]) (by kernel_rfl) (by simp) ?_
      refine AllReadyH.cons (o := ?ot1x21) ?hit1x21 ?hstt1x21 (AllReadyH.cons (o := ?ot1x22) ?hit1x22 ?hstt1x22 AllReadyH.nil)
      case hit1x21 => (simp only [List.getElem?_toArray, List.getElem?_cons_succ, List.getElem?_cons_zero]; rfl)
      case hit1x22 => (simp only [List.getElem?_toArray, List.getElem?_cons_succ, List.getElem?_cons_zero]; rfl)
      case hstt1x21 =>
        intro K hK
        rw [if_pos (by rfl)]
        refine ccr_wp rfl (kT3) 2 (by omega) rfl ru1 T3.out.blk ?_
        refine hK.out _ _ hHeld (fun _ => ?_)
        clear hK K
        try simp only [Act.put, List.setIfInBounds_toArray, List.set_cons_zero, List.set_cons_succ]
        refine wpAnyH_ready (rs := [4]) (by kernel_rfl) (by simp) ?_
        refine AllReadyH.cons (o := ?ot1x24) ?hit1x24 ?hstt1x24 AllReadyH.nil
        case hit1x24 => (simp only [List.getElem?_toArray, List.getElem?_cons_succ, List.getElem?_cons_zero]; rfl)
        intro K hK
        go_simp
        (go_at_call 17; (with_reducible refine (HD.out _).mono ?_); rintro e vt1x25 ⟨rfl, hb⟩)
        go_wp2_with fail
        refine hK.out _ _ (by exact Bx.Blk.keep hHeld hb) (fun hNew => ?_)
        clear hHeld
        have hHeld := hNew
        clear hNew hK K
        replace bel := Lib.hid (Bx.then_below bel.out hb)
        replace T1 := Lib.hid (T1.out.keep hb)
        replace T2 := Lib.hid (T2.out.keep hb)
        replace T3 := Lib.hid (T3.out.keep hb)
        clear hb
        refine wpAnyH_take (i := 5) (oi := ?ot1x26) (v := ?vt1x26) ?hit1x26 (by kernel_rfl) (by kernel_rfl) (by kernel_rfl) (fun _ _ _ h => h) ?yt1x26 (by assumption) ?rt1x26
        case hit1x26 => (simp only [List.getElem?_toArray, List.getElem?_cons_succ, List.getElem?_cons_zero]; rfl)
        case yt1x26 => (refine Or.inl ⟨by rfl, ?_⟩; intro w' hSw; (try dsimp only at hSw); go_simp; (try with_reducible rfl))
        try simp only [Act.put, List.setIfInBounds_toArray, List.set_cons_zero, List.set_cons_succ]
        refine wpAnyH_ready (rs := [6]) (by kernel_rfl) (by simp) ?_
        refine AllReadyH.cons (o := ?ot1x27) ?hit1x27 ?hstt1x27 AllReadyH.nil
        case hit1x27 => (simp only [List.getElem?_toArray, List.getElem?_cons_succ, List.getElem?_cons_zero]; rfl)
        intro K hK
        go_simp
        (go_at_call 16; (with_reducible refine (HC.out _).mono ?_); rintro e vt1x28 ⟨rfl, hb⟩)
        go_wp2_with fail
        refine hK.out _ _ (by exact Bx.Blk.keep hHeld hb) (fun hNew => ?_)
        clear hHeld
        have hHeld := hNew
        clear hNew hK K
        replace bel := Lib.hid (Bx.then_below bel.out hb)
        replace T1 := Lib.hid (T1.out.keep hb)
        replace T2 := Lib.hid (T2.out.keep hb)
        replace T3 := Lib.hid (T3.out.keep hb)
        clear hb
        refine wpAnyH_take (i := 7) (oi := ?ot1x29) (v := ?vt1x29) ?hit1x29 (by kernel_rfl) (by kernel_rfl) (by kernel_rfl) (fun _ _ _ h => h) ?yt1x29 (by assumption) ?rt1x29
        case hit1x29 => (simp only [List.getElem?_toArray, List.getElem?_cons_succ, List.getElem?_cons_zero]; rfl)
        case yt1x29 => (refine Or.inl ⟨by rfl, ?_⟩; intro w' hSw; (try dsimp only at hSw); go_simp; (try with_reducible rfl))
        try simp only [Act.put, List.setIfInBounds_toArray, List.set_cons_zero, List.set_cons_succ]
        refine wpAnyH_take (i := 8) (oi := ?ot1x30) (v := ?vt1x30) ?hit1x30 (by kernel_rfl) (by kernel_rfl) (by kernel_rfl) (fun _ _ _ h => h) ?yt1x30 (by assumption) ?rt1x30
        case hit1x30 => (simp only [List.getElem?_toArray, List.getElem?_cons_succ, List.getElem?_cons_zero]; rfl)
        case yt1x30 => (refine Or.inl ⟨by rfl, ?_⟩; intro w' hSw; (try dsimp only at hSw); go_simp; (try with_reducible rfl))
        try simp only [Act.put, List.setIfInBounds_toArray, List.set_cons_zero, List.set_cons_succ]
        refine wpAnyH_take (i := 9) (oi := ?ot1x31) (v := ?vt1x31) ?hit1x31 (by kernel_rfl) (by kernel_rfl) (by kernel_rfl) (fun _ _ _ h => h) ?yt1x31 (by assumption) ?rt1x31
        case hit1x31 => (simp only [List.getElem?_toArray, List.getElem?_cons_succ, List.getElem?_cons_zero]; rfl)
        case yt1x31 => (refine Or.inl ⟨by rfl, ?_⟩; intro w' hSw; (try dsimp only at hSw); go_simp; (try with_reducible rfl))
        try simp only [Act.put, List.setIfInBounds_toArray, List.set_cons_zero, List.set_cons_succ]
        refine wpAnyH_take (i := 11) (oi := ?ot1x32) (v := ?vt1x32) ?hit1x32 (by kernel_rfl) (by kernel_rfl) (by kernel_rfl) (fun _ _ _ h => h) ?yt1x32 (by assumption) ?rt1x32
        case hit1x32 => (simp only [List.getElem?_toArray, List.getElem?_cons_succ, List.getElem?_cons_zero]; rfl)
        case yt1x32 => (refine Or.inl ⟨by rfl, ?_⟩; intro w' hSw; (try dsimp only at hSw); go_simp; (try with_reducible rfl))
        try simp only [Act.put, List.setIfInBounds_toArray, List.set_cons_zero, List.set_cons_succ]
        refine wpAnyH_ready (rs := [12]) (by kernel_rfl) (by simp) ?_
        refine AllReadyH.cons (o := ?ot1x33) ?hit1x33 ?hstt1x33 AllReadyH.nil
        case hit1x33 => (simp only [List.getElem?_toArray, List.getElem?_cons_succ, List.getElem?_cons_zero]; rfl)
        intro K hK
        rw [if_pos (by rfl)]
        refine cc_wp rfl (kT3) 2 (by omega) rfl rc2 rfl ru1 T3.out ?_
        refine hK.out _ _ (by exact Bx.Blk.apart_at _ _ (by omega) hHeld) (fun hNew => ?_)
        clear hHeld
        have hHeld := hNew
        clear hNew hK K
        try simp only [Act.put]
        replace bel := Lib.hid (Bx.bel_put_at (k := kT3) (cdl rc2) (14 + 2 * 31) (by omega) bel.out)
        replace T1 := Lib.hid (T1.out.apart_at (k' := kT3) (cdl rc2) (14 + 2 * 31) (by omega))
        replace T2 := Lib.hid (T2.out.apart_at (k' := kT3) (cdl rc2) (14 + 2 * 31) (by omega))
        replace T3 := Lib.hid ((Bx.Fre.put_at (cdl rc2) (14 + 2 * 31) T3.out).of (m := tdl rv1) (tdl_upd ru1 2 (by omega) rc2))
        generalize vt1x28.setCells (kT3) (14 + 2 * 31) (cdl rc2) = vt1x34 at *
        refine wpAnyH_done (by kernel_rfl) ?_ _
        refine NoPanic.normal ?_
        go_wp2_with fail
        go_meet
        exact ⟨bel.out, T1.out, T2.out, T3.out⟩
      case hstt1x22 =>
        intro K hK
        go_simp
        (go_at_call 17; (with_reducible refine (HD.out _).mono ?_); rintro e vt1x35 ⟨rfl, hb⟩)
        go_wp2_with fail
        refine hK.out _ _ (by exact Bx.Blk.keep hHeld hb) (fun hNew => ?_)
        clear hHeld
        have hHeld := hNew
        clear hNew hK K
        replace bel := Lib.hid (Bx.then_below bel.out hb)
        replace T1 := Lib.hid (T1.out.keep hb)
        replace T2 := Lib.hid (T2.out.keep hb)
        replace T3 := Lib.hid (T3.out.keep hb)
        clear hb
        refine wpAnyH_take (i := 5) (oi := ?ot1x36) (v := ?vt1x36) ?hit1x36 (by kernel_rfl) (by kernel_rfl) (by kernel_rfl) (fun _ _ _ h => h) ?yt1x36 (by assumption) ?rt1x36
        case hit1x36 => (simp only [List.getElem?_toArray, List.getElem?_cons_succ, List.getElem?_cons_zero]; rfl)
        case yt1x36 => (refine Or.inl ⟨by rfl, ?_⟩; intro w' hSw; (try dsimp only at hSw); go_simp; (try with_reducible rfl))
        try simp only [Act.put, List.setIfInBounds_toArray, List.set_cons_zero, List.set_cons_succ]
        refine wpAnyH_ready (rs := [2]) (by kernel_rfl) (by simp) ?_
        refine AllReadyH.cons (o := ?ot1x37) ?hit1x37 ?hstt1x37 AllReadyH.nil
        case hit1x37 => (simp only [List.getElem?_toArray, List.getElem?_cons_succ, List.getElem?_cons_zero]; rfl)
        intro K hK
        rw [if_pos (by rfl)]
        refine ccr_wp rfl (kT3) 2 (by omega) rfl ru1 T3.out.blk ?_
        refine hK.out _ _ hHeld (fun _ => ?_)
        clear hK K
        try simp only [Act.put, List.setIfInBounds_toArray, List.set_cons_zero, List.set_cons_succ]
        refine wpAnyH_ready (rs := [6]) (by kernel_rfl) (by simp) ?_
        refine AllReadyH.cons (o := ?ot1x39) ?hit1x39 ?hstt1x39 AllReadyH.nil
        case hit1x39 => (simp only [List.getElem?_toArray, List.getElem?_cons_succ, List.getElem?_cons_zero]; rfl)
        intro K hK
        go_simp
        (go_at_call 16; (with_reducible refine (HC.out _).mono ?_); rintro e vt1x40 ⟨rfl, hb⟩)
        go_wp2_with fail
        refine hK.out _ _ (by exact Bx.Blk.keep hHeld hb) (fun hNew => ?_)
        clear hHeld
        have hHeld := hNew
        clear hNew hK K
        replace bel := Lib.hid (Bx.then_below bel.out hb)
        replace T1 := Lib.hid (T1.out.keep hb)
        replace T2 := Lib.hid (T2.out.keep hb)
        replace T3 := Lib.hid (T3.out.keep hb)
        clear hb
        refine wpAnyH_take (i := 7) (oi := ?ot1x41) (v := ?vt1x41) ?hit1x41 (by kernel_rfl) (by kernel_rfl) (by kernel_rfl) (fun _ _ _ h => h) ?yt1x41 (by assumption) ?rt1x41
        case hit1x41 => (simp only [List.getElem?_toArray, List.getElem?_cons_succ, List.getElem?_cons_zero]; rfl)
        case yt1x41 => (refine Or.inl ⟨by rfl, ?_⟩; intro w' hSw; (try dsimp only at hSw); go_simp; (try with_reducible rfl))
        try simp only [Act.put, List.setIfInBounds_toArray, List.set_cons_zero, List.set_cons_succ]
        refine wpAnyH_take (i := 8) (oi := ?ot1x42) (v := ?vt1x42) ?hit1x42 (by kernel_rfl) (by kernel_rfl) (by kernel_rfl) (fun _ _ _ h => h) ?yt1x42 (by assumption) ?rt1x42
        case hit1x42 => (simp only [List.getElem?_toArray, List.getElem?_cons_succ, List.getElem?_cons_zero]; rfl)
        case yt1x42 => (refine Or.inl ⟨by rfl, ?_⟩; intro w' hSw; (try dsimp only at hSw); go_simp; (try with_reducible rfl))
        try simp only [Act.put, List.setIfInBounds_toArray, List.set_cons_zero, List.set_cons_succ]
        refine wpAnyH_take (i := 9) (oi := ?ot1x43) (v := ?vt1x43) ?hit1x43 (by kernel_rfl) (by kernel_rfl) (by kernel_rfl) (fun _ _ _ h => h) ?yt1x43 (by assumption) ?rt1x43
        case hit1x43 => (simp only [List.getElem?_toArray, List.getElem?_cons_succ, List.getElem?_cons_zero]; rfl)
        case yt1x43 => (refine Or.inl ⟨by rfl, ?_⟩; intro w' hSw; (try dsimp only at hSw); go_simp; (try with_reducible rfl))
        try simp only [Act.put, List.setIfInBounds_toArray, List.set_cons_zero, List.set_cons_succ]
        refine wpAnyH_take (i := 11) (oi := ?ot1x44) (v := ?vt1x44) ?hit1x44 (by kernel_rfl) (by kernel_rfl) (by kernel_rfl) (fun _ _ _ h => h) ?yt1x44 (by assumption) ?rt1x44
        case hit1x44 => (simp only [List.getElem?_toArray, List.getElem?_cons_succ, List.getElem?_cons_zero]; rfl)
        case yt1x44 => (refine Or.inl ⟨by rfl, ?_⟩; intro w' hSw; (try dsimp only at hSw); go_simp; (try with_reducible rfl))
        try simp only [Act.put, List.setIfInBounds_toArray, List.set_cons_zero, List.set_cons_succ]
        refine wpAnyH_ready (rs := [12]) (by kernel_rfl) (by simp) ?_
        refine AllReadyH.cons (o := ?ot1x45) ?hit1x45 ?hstt1x45 AllReadyH.nil
        case hit1x45 => (simp only [List.getElem?_toArray, List.getElem?_cons_succ, List.getElem?_cons_zero]; rfl)
        intro K hK
        rw [if_pos (by rfl)]
        refine cc_wp rfl (kT3) 2 (by omega) rfl rc2 rfl ru1 T3.out ?_
        refine hK.out _ _ (by exact Bx.Blk.apart_at _ _ (by omega) hHeld) (fun hNew => ?_)
        clear hHeld
        have hHeld := hNew
        clear hNew hK K
        try simp only [Act.put]
        replace bel := Lib.hid (Bx.bel_put_at (k := kT3) (cdl rc2) (14 + 2 * 31) (by omega) bel.out)
        replace T1 := Lib.hid (T1.out.apart_at (k' := kT3) (cdl rc2) (14 + 2 * 31) (by omega))
        replace T2 := Lib.hid (T2.out.apart_at (k' := kT3) (cdl rc2) (14 + 2 * 31) (by omega))
        replace T3 := Lib.hid ((Bx.Fre.put_at (cdl rc2) (14 + 2 * 31) T3.out).of (m := tdl rv1) (tdl_upd ru1 2 (by omega) rc2))
        generalize vt1x40.setCells (kT3) (14 + 2 * 31) (cdl rc2) = vt1x46 at *
        refine wpAnyH_done (by kernel_rfl) ?_ _
        refine NoPanic.normal ?_
        go_wp2_with fail
        go_meet
        exact ⟨bel.out, T1.out, T2.out, T3.out⟩
  case rest =>
  clear T1 T2 T3 bel
  obtain ⟨bel, T1, T2, T3⟩ := hcut
  replace bel := Lib.hid bel
  replace T1 := Lib.hid T1
  replace T2 := Lib.hid T2
  replace T3 := Lib.hid T3
  go_wp2_with (first | ((with_reducible refine td_load ?_ ?_ (kT3) ?_ rv1 ?_ ?_); (· rfl); (· rfl); (· rfl); (· exact T3.out.blk)) | ((with_reducible refine cs_load ?_ ?_ (kT3) ?_ rv1 ?_ ?_); (· rfl); (· rfl); (· rfl); (· exact T3.out.blk)))
  refine (HE2.out _).mono ?_; rintro e w4 ⟨rfl, hb⟩
  replace T1 := Lib.hid (T1.out.keep hb)
  replace T2 := Lib.hid (T2.out.keep hb)
  replace T3 := Lib.hid (T3.out.keep hb)
  replace bel := Lib.hid (Bx.then_below bel.out hb)
  clear hb
  go_wp2_with (first | ((with_reducible refine td_load ?_ ?_ (kT1) ?_ re1 ?_ ?_); (· rfl); (· rfl); (· rfl); (· exact T1.out.blk)) | ((with_reducible refine cs_load ?_ ?_ (kT1) ?_ re1 ?_ ?_); (· rfl); (· rfl); (· rfl); (· exact T1.out.blk)) | ((with_reducible refine td_load ?_ ?_ (kT2) ?_ ru1 ?_ ?_); (· rfl); (· rfl); (· rfl); (· exact T2.out.blk)) | ((with_reducible refine cs_load ?_ ?_ (kT2) ?_ ru1 ?_ ?_); (· rfl); (· rfl); (· rfl); (· exact T2.out.blk)) | ((with_reducible refine td_load ?_ ?_ (kT3) ?_ rv1 ?_ ?_); (· rfl); (· rfl); (· rfl); (· exact T3.out.blk)) | ((with_reducible refine cs_load ?_ ?_ (kT3) ?_ rv1 ?_ ?_); (· rfl); (· rfl); (· rfl); (· exact T3.out.blk)))
  refine (HS2.out _).mono ?_; rintro e w5 ⟨rfl, hb⟩
  replace T1 := Lib.hid (T1.out.keep hb)
  replace T2 := Lib.hid (T2.out.keep hb)
  replace T3 := Lib.hid (T3.out.keep hb)
  replace bel := Lib.hid (Bx.then_below bel.out hb)
  clear hb
  go_upto_region 6 with (first | ((with_reducible refine td_store ?_ ?_ (kT3) rv3 ?_ ?_ (tdl rv1) ?_ ?_ ?_); (· rfl); (· rfl); (· rfl); (· rfl); (· exact tdl_len _); (· exact T3.out.own)))
  replace T1 := Lib.hid (T1.out.apart_at (k' := kT3) (tdl rv3) 0 (by omega))
  replace T2 := Lib.hid (T2.out.apart_at (k' := kT3) (tdl rv3) 0 (by omega))
  replace bel := Lib.hid (Bx.bel_put_at (k := kT3) (tdl rv3) 0 (by omega) bel.out)
  replace T3 := Lib.hid (T3.out.full (m := (tdl rv3)) (by rw [tdl_len, tdl_len]))
  generalize (w5.setCells (kT3) 0 (tdl rv3)) = W6 at *
  have hal := HZ.out
  have X2 := T2
  have hT1T4 : kT1 < W6.heap.size := T1.out.2.1
  have hT2T4 : kT2 < W6.heap.size := T2.out.2.1
  have hT3T4 : kT3 < W6.heap.size := T3.out.2.1
  have hwT4 : w.heap.size ≤ W6.heap.size := bel.out.size
  replace T1 := Lib.hid (T1.out.more (tdo ru1))
  replace T2 := Lib.hid (T2.out.more (tdo ru1))
  replace T3 := Lib.hid (T3.out.more (tdo ru1))
  have T4 : Hid (Bx.Fre (W6.alloc (tdo ru1)) W6.heap.size (tdl ru1)) := Lib.hid (Bx.Fre.new W6 (tdl ru1) 31)
  replace bel := Lib.hid (Bx.bel_box bel.out (tdo ru1))
  go_upto_region 7 with (first | ((with_reducible refine td_fresh ?_ ?_ (W6.heap.size) ru1 ?_ ?_ W6 (tdl Td.zero) ?_ ?_ ?_ ?_); (· rfl); (· rfl); (· rfl); (· rfl); (· exact tdl_len _); (· rfl); (· first | rfl | (simp; done))) | ((with_reducible refine td_load ?_ ?_ (kT2) ?_ ru1 ?_ ?_); (· rfl); (· rfl); (· rfl); (· exact X2.out.blk)))
  obtain ⟨kT4, hkT4⟩ : ∃ k, k = W6.heap.size := ⟨_, rfl⟩
  rw [← hkT4] at T4 hT1T4 hT2T4 hT3T4 hwT4 ⊢
  generalize (W6.alloc (tdo ru1)) = WT4 at *
  clear hkT4
  clear X2 hal
  have q7 := cord_cell (x := ru1) T4.out.blk 1 15 (by omega) (by omega) (v := .bool (ru1.cs 1).agd) rfl
  have f7 := T4.out.2.2 60
  replace q7 : WT4.cell? ⟨kT4, 60, none⟩ = some (.bool (ru1.cs 1).agd) := q7
  replace T1 := Lib.hid (T1.out.other (k' := kT4) (o := 60) (x := .bool true) (by omega))
  replace T2 := Lib.hid (T2.out.other (k' := kT4) (o := 60) (x := .bool true) (by omega))
  replace T3 := Lib.hid (T3.out.other (k' := kT4) (o := 60) (x := .bool true) (by omega))
  replace bel := Lib.hid (Bx.bel_set (k := kT4) (o := 60) (x := .bool true) (by omega) bel.out)
  replace T4 := Lib.hid ((T4.out.set (60) (.bool true)).of (m := (tdl rw1)) (tdl_set ru1 1 15 (by omega) (by omega) _ { ru1.cs 1 with agd := true } rfl))
  go_upto_region 8 with fail
  clear q7 f7
  generalize (WT4.setCell ⟨kT4, 60, none⟩ (.bool true)) = W8 at *
  go_wp2_with (first | ((with_reducible refine td_load ?_ ?_ (kT4) ?_ rw1 ?_ ?_); (· rfl); (· rfl); (· rfl); (· exact T4.out.blk)) | ((with_reducible refine cs_load ?_ ?_ (kT4) ?_ rw1 ?_ ?_); (· rfl); (· rfl); (· rfl); (· exact T4.out.blk)))
  refine (HS3.out _).mono ?_; rintro e w9 ⟨rfl, hb⟩
  replace T1 := Lib.hid (T1.out.keep hb)
  replace T2 := Lib.hid (T2.out.keep hb)
  replace T3 := Lib.hid (T3.out.keep hb)
  replace T4 := Lib.hid (T4.out.keep hb)
  replace bel := Lib.hid (Bx.then_below bel.out hb)
  clear hb
  go_upto_region 9 with (first | ((with_reducible refine td_store ?_ ?_ (kT4) rw2 ?_ ?_ (tdl rw1) ?_ ?_ ?_); (· rfl); (· rfl); (· rfl); (· rfl); (· exact tdl_len _); (· exact T4.out.own)))
  replace T1 := Lib.hid (T1.out.apart_at (k' := kT4) (tdl rw2) 0 (by omega))
  replace T2 := Lib.hid (T2.out.apart_at (k' := kT4) (tdl rw2) 0 (by omega))
  replace T3 := Lib.hid (T3.out.apart_at (k' := kT4) (tdl rw2) 0 (by omega))
  replace bel := Lib.hid (Bx.bel_put_at (k := kT4) (tdl rw2) 0 (by omega) bel.out)
  replace T4 := Lib.hid (T4.out.full (m := (tdl rw2)) (by rw [tdl_len, tdl_len]))
  generalize (w9.setCells (kT4) 0 (tdl rw2)) = W9 at *
  have a1 : W9.cell? ⟨kT2, 31, none⟩ = some (.bool true) := by have h := cord_cell T2.out.blk 0 17 (by omega) (by omega) (v := .bool (ru1.cs 0).png) rfl; rw [hu1.out] at h; exact h
  have a2 : W9.cell? ⟨kT3, 90, none⟩ = some (.int .i64 2) := by have h := cord_cell T3.out.blk 2 14 (by omega) (by omega) (v := .int .i64 (rv3.cs 2).st) rfl; rw [hv1.out] at h; exact h
  have a3 : W9.cell? ⟨kT3, 92, none⟩ = some (.bool true) := by have h := cord_cell T3.out.blk 2 16 (by omega) (by omega) (v := .bool (rv3.cs 2).agr) rfl; rw [hv2.out] at h; exact h
  have a4 : W9.cell? ⟨kT3, 94, none⟩ = some (.bool false) := by have h := cord_cell T3.out.blk 2 18 (by omega) (by omega) (v := .bool (rv3.cs 2).prd) rfl; rw [hv3.out] at h; exact h
  have a5 : W9.cell? ⟨kT4, 59, none⟩ = some (.int .i64 2) := by have h := cord_cell T4.out.blk 1 14 (by omega) (by omega) (v := .int .i64 (rw2.cs 1).st) rfl; rw [hw1.out] at h; exact h
  try simp only [List.append_eq, List.cons_append, List.nil_append]
  have hy := fun w => tself_at rw2 w
  have hyg := fun op a b w => Tre.tguard_at op a b rw2 rw2 w
  refine wp_region_noPanic ?_
  refine wp_region_held_drew (S := fun w' => Bx.Blk w' kT2 (tdl ru1) ∧ Bx.Blk w' kT3 (tdl rv3) ∧ Bx.Blk w' kT4 (tdl rw2) ∧ w'.cell? ⟨kT2, 31, none⟩ = some (.bool true) ∧ w'.cell? ⟨kT3, 90, none⟩ = some (.int .i64 2) ∧ w'.cell? ⟨kT3, 92, none⟩ = some (.bool true) ∧ w'.cell? ⟨kT3, 94, none⟩ = some (.bool false) ∧ w'.cell? ⟨kT4, 59, none⟩ = some (.int .i64 2)) (by kernel_rfl) (by exact ⟨T2.out.blk, T3.out.blk, T4.out.blk, a1, a2, a3, a4, a5⟩) (fun hHeld => ?_)
  replace bel := Lib.hid (Bx.bel_drewn bel.out)
  refine wpAnyH_take (i := 0) (oi := ?oz2x0) (v := ?vz2x0) ?hiz2x0 (by kernel_rfl) (by kernel_rfl) (by kernel_rfl) (fun _ _ _ h => h) ?yz2x0 (by assumption) ?rz2x0
  case hiz2x0 => (simp only [List.getElem?_toArray, List.getElem?_cons_zero]; rfl)
  case yz2x0 => (refine Or.inl ⟨by rfl, ?_⟩; intro w' hSw; (try dsimp only at hSw); go_simp; (try with_reducible rfl))
  try simp only [Act.put, List.setIfInBounds_toArray, List.set_cons_zero, List.set_cons_succ]
  refine wpAnyH_take (i := 1) (oi := ?oz2x1) (v := ?vz2x1) ?hiz2x1 (by kernel_rfl) (by kernel_rfl) (by kernel_rfl) (fun _ _ _ h => h) ?yz2x1 (by assumption) ?rz2x1
  case hiz2x1 => (simp only [List.getElem?_toArray, List.getElem?_cons_succ, List.getElem?_cons_zero]; rfl)
  case yz2x1 => (refine Or.inl ⟨by rfl, ?_⟩; intro w' hSw; (try dsimp only at hSw); go_simp; (try with_reducible rfl))
  try simp only [Act.put, List.setIfInBounds_toArray, List.set_cons_zero, List.set_cons_succ]
  refine wpAnyH_take (i := 2) (oi := ?oz2x2) (v := ?vz2x2) ?hiz2x2 (by kernel_rfl) (by kernel_rfl) (by kernel_rfl) (fun _ _ _ h => h) ?yz2x2 (by assumption) ?rz2x2
  case hiz2x2 => (simp only [List.getElem?_toArray, List.getElem?_cons_succ, List.getElem?_cons_zero]; rfl)
  case yz2x2 => (refine Or.inl ⟨by rfl, ?_⟩; intro w' hSw; (try dsimp only at hSw); go_simp; (try with_reducible rfl))
  try simp only [Act.put, List.setIfInBounds_toArray, List.set_cons_zero, List.set_cons_succ]
  refine wpAnyH_take (i := 3) (oi := ?oz2x3) (v := ?vz2x3) ?hiz2x3 (by kernel_rfl) (by kernel_rfl) (by kernel_rfl) (fun _ _ _ h => h) ?yz2x3 (by assumption) ?rz2x3
  case hiz2x3 => (simp only [List.getElem?_toArray, List.getElem?_cons_succ, List.getElem?_cons_zero]; rfl)
  case yz2x3 => (refine Or.inl ⟨by rfl, ?_⟩; intro w' hSw; (try dsimp only at hSw); go_simp; (try with_reducible rfl))
  try simp only [Act.put, List.setIfInBounds_toArray, List.set_cons_zero, List.set_cons_succ]
  refine wpAnyH_take (i := 4) (oi := ?oz2x4) (v := ?vz2x4) ?hiz2x4 (by kernel_rfl) (by kernel_rfl) (by kernel_rfl) (fun _ _ _ h => h) ?yz2x4 (by assumption) ?rz2x4
  case hiz2x4 => (simp only [List.getElem?_toArray, List.getElem?_cons_succ, List.getElem?_cons_zero]; rfl)
  case yz2x4 => (refine Or.inl ⟨by rfl, ?_⟩; intro w' hSw; (try dsimp only at hSw); go_simp; (try with_reducible rfl))
  try simp only [Act.put, List.setIfInBounds_toArray, List.set_cons_zero, List.set_cons_succ]
  refine wpAnyH_take (i := 5) (oi := ?oz2x5) (v := tdv ru1) ?hiz2x5 (by kernel_rfl) (by kernel_rfl) (by kernel_rfl) (fun _ _ _ h => h) ?yz2x5 (by assumption) ?rz2x5
  case hiz2x5 => (simp only [List.getElem?_toArray, List.getElem?_cons_succ, List.getElem?_cons_zero]; rfl)
  case yz2x5 => (refine td_yields rfl rfl (kT2) rfl ru1 ?_; intro w' hS; exact hS.1)
  try simp only [Act.put, List.setIfInBounds_toArray, List.set_cons_zero, List.set_cons_succ]
  refine wpAnyH_ready (rs := [6]) (by kernel_rfl) (by simp) ?_
  refine AllReadyH.cons (o := ?oz2x6) ?hiz2x6 ?hstz2x6 AllReadyH.nil
  case hiz2x6 => (simp only [List.getElem?_toArray, List.getElem?_cons_succ, List.getElem?_cons_zero]; rfl)
  intro K hK
  go_simp
  (go_at_call 6; (with_reducible refine (P1.out _).mono ?_); rintro e w21 ⟨rfl, hb21⟩)
  go_wp2_with fail
  refine hK.out _ _ ⟨Bx.Blk.keep hHeld.1 hb21, Bx.Blk.keep hHeld.2.1 hb21, Bx.Blk.keep hHeld.2.2.1 hb21, Bx.keep_cell hb21 hHeld.2.2.2.1, Bx.keep_cell hb21 hHeld.2.2.2.2.1, Bx.keep_cell hb21 hHeld.2.2.2.2.2.1, Bx.keep_cell hb21 hHeld.2.2.2.2.2.2.1, Bx.keep_cell hb21 hHeld.2.2.2.2.2.2.2⟩ (fun hNew => ?_)
  clear hHeld
  have hHeld := hNew
  clear hNew hK K
  replace bel := Lib.hid (Bx.then_below bel.out hb21)
  clear hb21
  refine wpAnyH_take (i := 7) (oi := ?oz2x7) (v := ?vz2x7) ?hiz2x7 (by kernel_rfl) (by kernel_rfl) (by kernel_rfl) (fun _ _ _ h => h) ?yz2x7 (by assumption) ?rz2x7
  case hiz2x7 => (simp only [List.getElem?_toArray, List.getElem?_cons_succ, List.getElem?_cons_zero]; rfl)
  case yz2x7 => (refine Or.inl ⟨by rfl, ?_⟩; intro w' hSw; (try dsimp only at hSw); go_simp; (try with_reducible rfl))
  try simp only [Act.put, List.setIfInBounds_toArray, List.set_cons_zero, List.set_cons_succ]
  refine wpAnyH_take (i := 8) (oi := ?oz2x8) (v := ?vz2x8) ?hiz2x8 (by kernel_rfl) (by kernel_rfl) (by kernel_rfl) (fun _ _ _ h => h) ?yz2x8 (by assumption) ?rz2x8
  case hiz2x8 => (simp only [List.getElem?_toArray, List.getElem?_cons_succ, List.getElem?_cons_zero]; rfl)
  case yz2x8 => (refine Or.inl ⟨by rfl, ?_⟩; intro w' hSw; (try dsimp only at hSw); go_simp; (try with_reducible rfl))
  try simp only [Act.put, List.setIfInBounds_toArray, List.set_cons_zero, List.set_cons_succ]
  refine wpAnyH_take (i := 9) (oi := ?oz2x9) (v := ?vz2x9) ?hiz2x9 (by kernel_rfl) (by kernel_rfl) (by kernel_rfl) (fun _ _ _ h => h) ?yz2x9 (by assumption) ?rz2x9
  case hiz2x9 => (simp only [List.getElem?_toArray, List.getElem?_cons_succ, List.getElem?_cons_zero]; rfl)
  case yz2x9 => (refine Or.inl ⟨by rfl, ?_⟩; intro w' hSw; (try dsimp only at hSw); go_simp; (try with_reducible rfl))
  try simp only [Act.put, List.setIfInBounds_toArray, List.set_cons_zero, List.set_cons_succ]
  refine wpAnyH_take (i := 10) (oi := ?oz2x10) (v := ?vz2x10) ?hiz2x10 (by kernel_rfl) (by kernel_rfl) (by kernel_rfl) (fun _ _ _ h => h) ?yz2x10 (by assumption) ?rz2x10
  case hiz2x10 => (simp only [List.getElem?_toArray, List.getElem?_cons_succ, List.getElem?_cons_zero]; rfl)
  case yz2x10 => (refine Or.inl ⟨by rfl, ?_⟩; intro w' hSw; (try dsimp only at hSw); go_simp; (try with_reducible rfl))
  try simp only [Act.put, List.setIfInBounds_toArray, List.set_cons_zero, List.set_cons_succ]
  refine wpAnyH_take (i := 11) (oi := ?oz2x11) (v := ?vz2x11) ?hiz2x11 (by kernel_rfl) (by kernel_rfl) (by kernel_rfl) (fun _ _ _ h => h) ?yz2x11 (by assumption) ?rz2x11
  case hiz2x11 => (simp only [List.getElem?_toArray, List.getElem?_cons_succ, List.getElem?_cons_zero]; rfl)
  case yz2x11 => (refine Or.inl ⟨by rfl, ?_⟩; intro w' hSw; (try dsimp only at hSw); go_simp; (try with_reducible rfl))
  try simp only [Act.put, List.setIfInBounds_toArray, List.set_cons_zero, List.set_cons_succ]
  refine wpAnyH_take (i := 12) (oi := ?oz2x12) (v := ?vz2x12) ?hiz2x12 (by kernel_rfl) (by kernel_rfl) (by kernel_rfl) (fun _ _ _ h => h) ?yz2x12 (by assumption) ?rz2x12
  case hiz2x12 => (simp only [List.getElem?_toArray, List.getElem?_cons_succ, List.getElem?_cons_zero]; rfl)
  case yz2x12 => (refine Or.inl ⟨by rfl, ?_⟩; intro w' hSw; (try dsimp only at hSw); go_simp; (try with_reducible rfl))
  try simp only [Act.put, List.setIfInBounds_toArray, List.set_cons_zero, List.set_cons_succ]
  refine wpAnyH_take (i := 13) (oi := ?oz2x13) (v := ?vz2x13) ?hiz2x13 (by kernel_rfl) (by kernel_rfl) (by kernel_rfl) (fun _ _ _ h => h) ?yz2x13 (by assumption) ?rz2x13
  case hiz2x13 => (simp only [List.getElem?_toArray, List.getElem?_cons_succ, List.getElem?_cons_zero]; rfl)
  case yz2x13 => (refine Or.inl ⟨by rfl, ?_⟩; intro w' hSw; (try dsimp only at hSw); go_simp; (try with_reducible rfl))
  try simp only [Act.put, List.setIfInBounds_toArray, List.set_cons_zero, List.set_cons_succ]
  refine wpAnyH_take (i := 14) (oi := ?oz2x14) (v := ?vz2x14) ?hiz2x14 (by kernel_rfl) (by kernel_rfl) (by kernel_rfl) (fun _ _ _ h => h) ?yz2x14 (by assumption) ?rz2x14
  case hiz2x14 => (simp only [List.getElem?_toArray, List.getElem?_cons_succ, List.getElem?_cons_zero]; rfl)
  case yz2x14 => (refine Or.inl ⟨by rfl, ?_⟩; intro w' hSw; (try dsimp only at hSw); go_simp; (try with_reducible rfl))
  try simp only [Act.put, List.setIfInBounds_toArray, List.set_cons_zero, List.set_cons_succ]
  refine wpAnyH_take (i := 15) (oi := ?oz2x15) (v := ?vz2x15) ?hiz2x15 (by kernel_rfl) (by kernel_rfl) (by kernel_rfl) (fun _ _ _ h => h) ?yz2x15 (by assumption) ?rz2x15
  case hiz2x15 => (simp only [List.getElem?_toArray, List.getElem?_cons_succ, List.getElem?_cons_zero]; rfl)
  case yz2x15 => (refine Or.inl ⟨by rfl, ?_⟩; intro w' hSw; (try dsimp only at hSw); go_simp; (try with_reducible rfl))
  try simp only [Act.put, List.setIfInBounds_toArray, List.set_cons_zero, List.set_cons_succ]
  refine wpAnyH_take (i := 16) (oi := ?oz2x16) (v := ?vz2x16) ?hiz2x16 (by kernel_rfl) (by kernel_rfl) (by kernel_rfl) (fun _ _ _ h => h) ?yz2x16 (by assumption) ?rz2x16
  case hiz2x16 => (simp only [List.getElem?_toArray, List.getElem?_cons_succ, List.getElem?_cons_zero]; rfl)
  case yz2x16 => (refine Or.inl ⟨by rfl, ?_⟩; intro w' hSw; (try dsimp only at hSw); go_simp; (try with_reducible rfl))
  try simp only [Act.put, List.setIfInBounds_toArray, List.set_cons_zero, List.set_cons_succ]
  refine wpAnyH_take (i := 17) (oi := ?oz2x17) (v := ?vz2x17) ?hiz2x17 (by kernel_rfl) (by kernel_rfl) (by kernel_rfl) (fun _ _ _ h => h) ?yz2x17 (by assumption) ?rz2x17
  case hiz2x17 => (simp only [List.getElem?_toArray, List.getElem?_cons_succ, List.getElem?_cons_zero]; rfl)
  case yz2x17 => (refine Or.inl ⟨by rfl, ?_⟩; intro w' hSw; (try dsimp only at hSw); go_simp; (try with_reducible rfl))
  try simp only [Act.put, List.setIfInBounds_toArray, List.set_cons_zero, List.set_cons_succ]
  refine wpAnyH_take (i := 18) (oi := ?oz2x18) (v := ?vz2x18) ?hiz2x18 (by kernel_rfl) (by kernel_rfl) (by kernel_rfl) (fun _ _ _ h => h) ?yz2x18 (by assumption) ?rz2x18
  case hiz2x18 => (simp only [List.getElem?_toArray, List.getElem?_cons_succ, List.getElem?_cons_zero]; rfl)
  case yz2x18 => (refine Or.inl ⟨by rfl, ?_⟩; intro w' hSw; (try dsimp only at hSw); go_simp; (try with_reducible rfl))
  try simp only [Act.put, List.setIfInBounds_toArray, List.set_cons_zero, List.set_cons_succ]
  refine wpAnyH_take (i := 19) (oi := ?oz2x19) (v := ?vz2x19) ?hiz2x19 (by kernel_rfl) (by kernel_rfl) (by kernel_rfl) (fun _ _ _ h => h) ?yz2x19 (by assumption) ?rz2x19
  case hiz2x19 => (simp only [List.getElem?_toArray, List.getElem?_cons_succ, List.getElem?_cons_zero]; rfl)
  case yz2x19 => (refine Or.inl ⟨by rfl, ?_⟩; intro w' hSw; (try dsimp only at hSw); go_simp; (try with_reducible rfl))
  try simp only [Act.put, List.setIfInBounds_toArray, List.set_cons_zero, List.set_cons_succ]
  refine wpAnyH_take (i := 20) (oi := ?oz2x20) (v := ?vz2x20) ?hiz2x20 (by kernel_rfl) (by kernel_rfl) (by kernel_rfl) (fun _ _ _ h => h) ?yz2x20 (by assumption) ?rz2x20
  case hiz2x20 => (simp only [List.getElem?_toArray, List.getElem?_cons_succ, List.getElem?_cons_zero]; rfl)
  case yz2x20 => (refine Or.inl ⟨by rfl, ?_⟩; intro w' hSw; (try dsimp only at hSw); go_simp; (try with_reducible rfl))
  try simp only [Act.put, List.setIfInBounds_toArray, List.set_cons_zero, List.set_cons_succ]
  refine wpAnyH_take (i := 21) (oi := ?oz2x21) (v := ?vz2x21) ?hiz2x21 (by kernel_rfl) (by kernel_rfl) (by kernel_rfl) (fun _ _ _ h => h) ?yz2x21 (by assumption) ?rz2x21
  case hiz2x21 => (simp only [List.getElem?_toArray, List.getElem?_cons_succ, List.getElem?_cons_zero]; rfl)
  case yz2x21 => (refine Or.inl ⟨by rfl, ?_⟩; intro w' hSw; (try dsimp only at hSw); go_simp; (try with_reducible rfl))
  try simp only [Act.put, List.setIfInBounds_toArray, List.set_cons_zero, List.set_cons_succ]
  refine wpAnyH_take (i := 22) (oi := ?oz2x22) (v := ?vz2x22) ?hiz2x22 (by kernel_rfl) (by kernel_rfl) (by kernel_rfl) (fun _ _ _ h => h) ?yz2x22 (by assumption) ?rz2x22
  case hiz2x22 => (simp only [List.getElem?_toArray, List.getElem?_cons_succ, List.getElem?_cons_zero]; rfl)
  case yz2x22 => (refine Or.inl ⟨by rfl, ?_⟩; intro w' hSw; (try dsimp only at hSw); go_simp; (try with_reducible rfl))
  try simp only [Act.put, List.setIfInBounds_toArray, List.set_cons_zero, List.set_cons_succ]
  refine wpAnyH_take (i := 23) (oi := ?oz2x23) (v := ?vz2x23) ?hiz2x23 (by kernel_rfl) (by kernel_rfl) (by kernel_rfl) (fun _ _ _ h => h) ?yz2x23 (by assumption) ?rz2x23
  case hiz2x23 => (simp only [List.getElem?_toArray, List.getElem?_cons_succ, List.getElem?_cons_zero]; rfl)
  case yz2x23 => (refine Or.inl ⟨by rfl, ?_⟩; intro w' hSw; (try dsimp only at hSw); go_simp; (try with_reducible rfl))
  try simp only [Act.put, List.setIfInBounds_toArray, List.set_cons_zero, List.set_cons_succ]
  refine wpAnyH_take (i := 24) (oi := ?oz2x24) (v := ?vz2x24) ?hiz2x24 (by kernel_rfl) (by kernel_rfl) (by kernel_rfl) (fun _ _ _ h => h) ?yz2x24 (by assumption) ?rz2x24
  case hiz2x24 => (simp only [List.getElem?_toArray, List.getElem?_cons_succ, List.getElem?_cons_zero]; rfl)
  case yz2x24 => (refine Or.inl ⟨by rfl, ?_⟩; intro w' hSw; (try dsimp only at hSw); go_simp; (try with_reducible rfl))
  try simp only [Act.put, List.setIfInBounds_toArray, List.set_cons_zero, List.set_cons_succ]
  refine wpAnyH_take (i := 25) (oi := ?oz2x25) (v := ?vz2x25) ?hiz2x25 (by kernel_rfl) (by kernel_rfl) (by kernel_rfl) (fun _ _ _ h => h) ?yz2x25 (by assumption) ?rz2x25
  case hiz2x25 => (simp only [List.getElem?_toArray, List.getElem?_cons_succ, List.getElem?_cons_zero]; rfl)
  case yz2x25 => (refine Or.inl ⟨by rfl, ?_⟩; intro w' hSw; (try dsimp only at hSw); go_simp; (try with_reducible rfl))
  try simp only [Act.put, List.setIfInBounds_toArray, List.set_cons_zero, List.set_cons_succ]
  refine wpAnyH_take (i := 26) (oi := ?oz2x26) (v := ?vz2x26) ?hiz2x26 (by kernel_rfl) (by kernel_rfl) (by kernel_rfl) (fun _ _ _ h => h) ?yz2x26 (by assumption) ?rz2x26
  case hiz2x26 => (simp only [List.getElem?_toArray, List.getElem?_cons_succ, List.getElem?_cons_zero]; rfl)
  case yz2x26 => (refine Or.inl ⟨by rfl, ?_⟩; intro w' hSw; (try dsimp only at hSw); go_simp; (try with_reducible rfl))
  try simp only [Act.put, List.setIfInBounds_toArray, List.set_cons_zero, List.set_cons_succ]
  refine wpAnyH_take (i := 27) (oi := ?oz2x27) (v := ?vz2x27) ?hiz2x27 (by kernel_rfl) (by kernel_rfl) (by kernel_rfl) (fun _ _ _ h => h) ?yz2x27 (by assumption) ?rz2x27
  case hiz2x27 => (simp only [List.getElem?_toArray, List.getElem?_cons_succ, List.getElem?_cons_zero]; rfl)
  case yz2x27 => (refine Or.inl ⟨by rfl, ?_⟩; intro w' hSw; (try dsimp only at hSw); go_simp; (try with_reducible rfl))
  try simp only [Act.put, List.setIfInBounds_toArray, List.set_cons_zero, List.set_cons_succ]
  refine wpAnyH_take (i := 28) (oi := ?oz2x28) (v := ?vz2x28) ?hiz2x28 (by kernel_rfl) (by kernel_rfl) (by kernel_rfl) (fun _ _ _ h => h) ?yz2x28 (by assumption) ?rz2x28
  case hiz2x28 => (simp only [List.getElem?_toArray, List.getElem?_cons_succ, List.getElem?_cons_zero]; rfl)
  case yz2x28 => (refine Or.inl ⟨by rfl, ?_⟩; intro w' hSw; (try dsimp only at hSw); go_simp; (try with_reducible rfl))
  try simp only [Act.put, List.setIfInBounds_toArray, List.set_cons_zero, List.set_cons_succ]
  refine wpAnyH_take (i := 29) (oi := ?oz2x29) (v := ?vz2x29) ?hiz2x29 (by kernel_rfl) (by kernel_rfl) (by kernel_rfl) (fun _ _ _ h => h) ?yz2x29 (by assumption) ?rz2x29
  case hiz2x29 => (simp only [List.getElem?_toArray, List.getElem?_cons_succ, List.getElem?_cons_zero]; rfl)
  case yz2x29 => (refine Or.inl ⟨by rfl, ?_⟩; intro w' hSw; (try dsimp only at hSw); go_simp; (try with_reducible rfl))
  try simp only [Act.put, List.setIfInBounds_toArray, List.set_cons_zero, List.set_cons_succ]
  refine wpAnyH_take (i := 30) (oi := ?oz2x30) (v := tdv rv3) ?hiz2x30 (by kernel_rfl) (by kernel_rfl) (by kernel_rfl) (fun _ _ _ h => h) ?yz2x30 (by assumption) ?rz2x30
  case hiz2x30 => (simp only [List.getElem?_toArray, List.getElem?_cons_succ, List.getElem?_cons_zero]; rfl)
  case yz2x30 => (refine td_yields rfl rfl (kT3) rfl rv3 ?_; intro w' hS; exact hS.2.1)
  try simp only [Act.put, List.setIfInBounds_toArray, List.set_cons_zero, List.set_cons_succ]
  refine wpAnyH_ready (rs := [31]) (by kernel_rfl) (by simp) ?_
  refine AllReadyH.cons (o := ?oz2x31) ?hiz2x31 ?hstz2x31 AllReadyH.nil
  case hiz2x31 => (simp only [List.getElem?_toArray, List.getElem?_cons_succ, List.getElem?_cons_zero]; rfl)
  intro K hK
  go_simp
  (go_at_call 6; (with_reducible refine (P2.out _).mono ?_); rintro e w22 ⟨rfl, hb22⟩)
  go_wp2_with fail
  refine hK.out _ _ ⟨Bx.Blk.keep hHeld.1 hb22, Bx.Blk.keep hHeld.2.1 hb22, Bx.Blk.keep hHeld.2.2.1 hb22, Bx.keep_cell hb22 hHeld.2.2.2.1, Bx.keep_cell hb22 hHeld.2.2.2.2.1, Bx.keep_cell hb22 hHeld.2.2.2.2.2.1, Bx.keep_cell hb22 hHeld.2.2.2.2.2.2.1, Bx.keep_cell hb22 hHeld.2.2.2.2.2.2.2⟩ (fun hNew => ?_)
  clear hHeld
  have hHeld := hNew
  clear hNew hK K
  replace bel := Lib.hid (Bx.then_below bel.out hb22)
  clear hb22
  refine wpAnyH_take (i := 32) (oi := ?oz2x32) (v := ?vz2x32) ?hiz2x32 (by kernel_rfl) (by kernel_rfl) (by kernel_rfl) (fun _ _ _ h => h) ?yz2x32 (by assumption) ?rz2x32
  case hiz2x32 => (simp only [List.getElem?_toArray, List.getElem?_cons_succ, List.getElem?_cons_zero]; rfl)
  case yz2x32 => (refine Or.inl ⟨by rfl, ?_⟩; intro w' hSw; (try dsimp only at hSw); go_simp; (try with_reducible rfl))
  try simp only [Act.put, List.setIfInBounds_toArray, List.set_cons_zero, List.set_cons_succ]
  refine wpAnyH_take (i := 33) (oi := ?oz2x33) (v := ?vz2x33) ?hiz2x33 (by kernel_rfl) (by kernel_rfl) (by kernel_rfl) (fun _ _ _ h => h) ?yz2x33 (by assumption) ?rz2x33
  case hiz2x33 => (simp only [List.getElem?_toArray, List.getElem?_cons_succ, List.getElem?_cons_zero]; rfl)
  case yz2x33 => (refine Or.inl ⟨by rfl, ?_⟩; intro w' hSw; (try dsimp only at hSw); go_simp; (try with_reducible rfl))
  try simp only [Act.put, List.setIfInBounds_toArray, List.set_cons_zero, List.set_cons_succ]
  refine wpAnyH_take (i := 34) (oi := ?oz2x34) (v := ?vz2x34) ?hiz2x34 (by kernel_rfl) (by kernel_rfl) (by kernel_rfl) (fun _ _ _ h => h) ?yz2x34 (by assumption) ?rz2x34
  case hiz2x34 => (simp only [List.getElem?_toArray, List.getElem?_cons_succ, List.getElem?_cons_zero]; rfl)
  case yz2x34 => (refine Or.inl ⟨by rfl, ?_⟩; intro w' hSw; (try dsimp only at hSw); go_simp; (try with_reducible rfl))
  try simp only [Act.put, List.setIfInBounds_toArray, List.set_cons_zero, List.set_cons_succ]
  refine wpAnyH_take (i := 35) (oi := ?oz2x35) (v := ?vz2x35) ?hiz2x35 (by kernel_rfl) (by kernel_rfl) (by kernel_rfl) (fun _ _ _ h => h) ?yz2x35 (by assumption) ?rz2x35
  case hiz2x35 => (simp only [List.getElem?_toArray, List.getElem?_cons_succ, List.getElem?_cons_zero]; rfl)
  case yz2x35 => (refine Or.inl ⟨by rfl, ?_⟩; intro w' hSw; (try dsimp only at hSw); go_simp; (try with_reducible rfl))
  try simp only [Act.put, List.setIfInBounds_toArray, List.set_cons_zero, List.set_cons_succ]
  refine wpAnyH_take (i := 36) (oi := ?oz2x36) (v := ?vz2x36) ?hiz2x36 (by kernel_rfl) (by kernel_rfl) (by kernel_rfl) (fun _ _ _ h => h) ?yz2x36 (by assumption) ?rz2x36
  case hiz2x36 => (simp only [List.getElem?_toArray, List.getElem?_cons_succ, List.getElem?_cons_zero]; rfl)
  case yz2x36 => (refine Or.inl ⟨by rfl, ?_⟩; intro w' hSw; (try dsimp only at hSw); go_simp; (try with_reducible rfl))
  try simp only [Act.put, List.setIfInBounds_toArray, List.set_cons_zero, List.set_cons_succ]
  refine wpAnyH_take (i := 37) (oi := ?oz2x37) (v := ?vz2x37) ?hiz2x37 (by kernel_rfl) (by kernel_rfl) (by kernel_rfl) (fun _ _ _ h => h) ?yz2x37 (by assumption) ?rz2x37
  case hiz2x37 => (simp only [List.getElem?_toArray, List.getElem?_cons_succ, List.getElem?_cons_zero]; rfl)
  case yz2x37 => (refine Or.inl ⟨by rfl, ?_⟩; intro w' hSw; (try dsimp only at hSw); go_simp; (try with_reducible rfl))
  try simp only [Act.put, List.setIfInBounds_toArray, List.set_cons_zero, List.set_cons_succ]
  refine wpAnyH_take (i := 38) (oi := ?oz2x38) (v := ?vz2x38) ?hiz2x38 (by kernel_rfl) (by kernel_rfl) (by kernel_rfl) (fun _ _ _ h => h) ?yz2x38 (by assumption) ?rz2x38
  case hiz2x38 => (simp only [List.getElem?_toArray, List.getElem?_cons_succ, List.getElem?_cons_zero]; rfl)
  case yz2x38 => (refine Or.inl ⟨by rfl, ?_⟩; intro w' hSw; (try dsimp only at hSw); go_simp; (try with_reducible rfl))
  try simp only [Act.put, List.setIfInBounds_toArray, List.set_cons_zero, List.set_cons_succ]
  refine wpAnyH_take (i := 39) (oi := ?oz2x39) (v := ?vz2x39) ?hiz2x39 (by kernel_rfl) (by kernel_rfl) (by kernel_rfl) (fun _ _ _ h => h) ?yz2x39 (by assumption) ?rz2x39
  case hiz2x39 => (simp only [List.getElem?_toArray, List.getElem?_cons_succ, List.getElem?_cons_zero]; rfl)
  case yz2x39 => (refine Or.inl ⟨by rfl, ?_⟩; intro w' hSw; (try dsimp only at hSw); go_simp; (try with_reducible rfl))
  try simp only [Act.put, List.setIfInBounds_toArray, List.set_cons_zero, List.set_cons_succ]
  refine wpAnyH_take (i := 40) (oi := ?oz2x40) (v := ?vz2x40) ?hiz2x40 (by kernel_rfl) (by kernel_rfl) (by kernel_rfl) (fun _ _ _ h => h) ?yz2x40 (by assumption) ?rz2x40
  case hiz2x40 => (simp only [List.getElem?_toArray, List.getElem?_cons_succ, List.getElem?_cons_zero]; rfl)
  case yz2x40 => (refine Or.inl ⟨by rfl, ?_⟩; intro w' hSw; (try dsimp only at hSw); go_simp; (try with_reducible rfl))
  try simp only [Act.put, List.setIfInBounds_toArray, List.set_cons_zero, List.set_cons_succ]
  refine wpAnyH_take (i := 41) (oi := ?oz2x41) (v := ?vz2x41) ?hiz2x41 (by kernel_rfl) (by kernel_rfl) (by kernel_rfl) (fun _ _ _ h => h) ?yz2x41 (by assumption) ?rz2x41
  case hiz2x41 => (simp only [List.getElem?_toArray, List.getElem?_cons_succ, List.getElem?_cons_zero]; rfl)
  case yz2x41 => (refine Or.inl ⟨by rfl, ?_⟩; intro w' hSw; (try dsimp only at hSw); go_simp; (try with_reducible rfl))
  try simp only [Act.put, List.setIfInBounds_toArray, List.set_cons_zero, List.set_cons_succ]
  refine wpAnyH_take (i := 42) (oi := ?oz2x42) (v := tdv rw2) ?hiz2x42 (by kernel_rfl) (by kernel_rfl) (by kernel_rfl) (fun _ _ _ h => h) ?yz2x42 (by assumption) ?rz2x42
  case hiz2x42 => (simp only [List.getElem?_toArray, List.getElem?_cons_succ, List.getElem?_cons_zero]; rfl)
  case yz2x42 => (refine td_yields rfl rfl (kT4) rfl rw2 ?_; intro w' hS; exact hS.2.2.1)
  try simp only [Act.put, List.setIfInBounds_toArray, List.set_cons_zero, List.set_cons_succ]
  refine wpAnyH_ready (rs := [43]) (by kernel_rfl) (by simp) ?_
  refine AllReadyH.cons (o := ?oz2x43) ?hiz2x43 ?hstz2x43 AllReadyH.nil
  case hiz2x43 => (simp only [List.getElem?_toArray, List.getElem?_cons_succ, List.getElem?_cons_zero]; rfl)
  intro K hK
  go_simp
  (go_at_call 7; (with_reducible refine (P3.out _).mono ?_); rintro e w23 ⟨rfl, hb23⟩)
  go_wp2_with fail
  refine hK.out _ _ ⟨Bx.Blk.keep hHeld.1 hb23, Bx.Blk.keep hHeld.2.1 hb23, Bx.Blk.keep hHeld.2.2.1 hb23, Bx.keep_cell hb23 hHeld.2.2.2.1, Bx.keep_cell hb23 hHeld.2.2.2.2.1, Bx.keep_cell hb23 hHeld.2.2.2.2.2.1, Bx.keep_cell hb23 hHeld.2.2.2.2.2.2.1, Bx.keep_cell hb23 hHeld.2.2.2.2.2.2.2⟩ (fun hNew => ?_)
  clear hHeld
  have hHeld := hNew
  clear hNew hK K
  replace bel := Lib.hid (Bx.then_below bel.out hb23)
  clear hb23
  refine wpAnyH_take (i := 44) (oi := ?oz2x44) (v := ?vz2x44) ?hiz2x44 (by kernel_rfl) (by kernel_rfl) (by kernel_rfl) (fun _ _ _ h => h) ?yz2x44 (by assumption) ?rz2x44
  case hiz2x44 => (simp only [List.getElem?_toArray, List.getElem?_cons_succ, List.getElem?_cons_zero]; rfl)
  case yz2x44 => (refine Or.inl ⟨by rfl, ?_⟩; intro w' hSw; (try dsimp only at hSw); go_simp; (try with_reducible rfl))
  try simp only [Act.put, List.setIfInBounds_toArray, List.set_cons_zero, List.set_cons_succ]
  refine wpAnyH_take (i := 45) (oi := ?oz2x45) (v := ?vz2x45) ?hiz2x45 (by kernel_rfl) (by kernel_rfl) (by kernel_rfl) (fun _ _ _ h => h) ?yz2x45 (by assumption) ?rz2x45
  case hiz2x45 => (simp only [List.getElem?_toArray, List.getElem?_cons_succ, List.getElem?_cons_zero]; rfl)
  case yz2x45 => (refine Or.inl ⟨by rfl, ?_⟩; intro w' hSw; (try dsimp only at hSw); go_simp; (try with_reducible rfl))
  try simp only [Act.put, List.setIfInBounds_toArray, List.set_cons_zero, List.set_cons_succ]
  refine wpAnyH_take (i := 46) (oi := ?oz2x46) (v := ?vz2x46) ?hiz2x46 (by kernel_rfl) (by kernel_rfl) (by kernel_rfl) (fun _ _ _ h => h) ?yz2x46 (by assumption) ?rz2x46
  case hiz2x46 => (simp only [List.getElem?_toArray, List.getElem?_cons_succ, List.getElem?_cons_zero]; rfl)
  case yz2x46 => (refine Or.inl ⟨by rfl, ?_⟩; intro w' hSw; (try dsimp only at hSw); go_simp; (try with_reducible rfl))
  try simp only [Act.put, List.setIfInBounds_toArray, List.set_cons_zero, List.set_cons_succ]
  refine wpAnyH_take (i := 47) (oi := ?oz2x47) (v := tdv rw2) ?hiz2x47 (by kernel_rfl) (by kernel_rfl) (by kernel_rfl) (fun _ _ _ h => h) ?yz2x47 (by assumption) ?rz2x47
  case hiz2x47 => (simp only [List.getElem?_toArray, List.getElem?_cons_succ, List.getElem?_cons_zero]; rfl)
  case yz2x47 => (refine td_yields rfl rfl (kT4) rfl rw2 ?_; intro w' hS; exact hS.2.2.1)
  try simp only [Act.put, List.setIfInBounds_toArray, List.set_cons_zero, List.set_cons_succ]
  refine wpAnyH_ready (rs := [48]) (by kernel_rfl) (by simp) ?_
  refine AllReadyH.cons (o := ?oz2x48) ?hiz2x48 ?hstz2x48 AllReadyH.nil
  case hiz2x48 => (simp only [List.getElem?_toArray, List.getElem?_cons_succ, List.getElem?_cons_zero]; rfl)
  intro K hK
  go_simp
  (go_at_call 19; (with_reducible refine (P4.out _).mono ?_); rintro e w24 ⟨rfl, hb24⟩)
  go_wp2_with fail
  refine hK.out _ _ ⟨Bx.Blk.keep hHeld.1 hb24, Bx.Blk.keep hHeld.2.1 hb24, Bx.Blk.keep hHeld.2.2.1 hb24, Bx.keep_cell hb24 hHeld.2.2.2.1, Bx.keep_cell hb24 hHeld.2.2.2.2.1, Bx.keep_cell hb24 hHeld.2.2.2.2.2.1, Bx.keep_cell hb24 hHeld.2.2.2.2.2.2.1, Bx.keep_cell hb24 hHeld.2.2.2.2.2.2.2⟩ (fun hNew => ?_)
  clear hHeld
  have hHeld := hNew
  clear hNew hK K
  replace bel := Lib.hid (Bx.then_below bel.out hb24)
  clear hb24
  refine wpAnyH_take (i := 49) (oi := ?oz2x49) (v := ?vz2x49) ?hiz2x49 (by kernel_rfl) (by kernel_rfl) (by kernel_rfl) (fun _ _ _ h => h) ?yz2x49 (by assumption) ?rz2x49
  case hiz2x49 => (simp only [List.getElem?_toArray, List.getElem?_cons_succ, List.getElem?_cons_zero]; rfl)
  case yz2x49 => (refine Or.inl ⟨by rfl, ?_⟩; intro w' hSw; (try dsimp only at hSw); go_simp; (try with_reducible rfl))
  try simp only [Act.put, List.setIfInBounds_toArray, List.set_cons_zero, List.set_cons_succ]
  refine wpAnyH_take (i := 50) (oi := ?oz2x50) (v := ?vz2x50) ?hiz2x50 (by kernel_rfl) (by kernel_rfl) (by kernel_rfl) (fun _ _ _ h => h) ?yz2x50 (by assumption) ?rz2x50
  case hiz2x50 => (simp only [List.getElem?_toArray, List.getElem?_cons_succ, List.getElem?_cons_zero]; rfl)
  case yz2x50 => (refine Or.inl ⟨by rfl, ?_⟩; intro w' hSw; (try dsimp only at hSw); go_simp; (try with_reducible rfl))
  try simp only [Act.put, List.setIfInBounds_toArray, List.set_cons_zero, List.set_cons_succ]
  refine wpAnyH_take (i := 51) (oi := ?oz2x51) (v := tdv rw2) ?hiz2x51 (by kernel_rfl) (by kernel_rfl) (by kernel_rfl) (fun _ _ _ h => h) ?yz2x51 (by assumption) ?rz2x51
  case hiz2x51 => (simp only [List.getElem?_toArray, List.getElem?_cons_succ, List.getElem?_cons_zero]; rfl)
  case yz2x51 => (refine td_yields rfl rfl (kT4) rfl rw2 ?_; intro w' hS; exact hS.2.2.1)
  try simp only [Act.put, List.setIfInBounds_toArray, List.set_cons_zero, List.set_cons_succ]
  refine wpAnyH_ready (rs := [52]) (by kernel_rfl) (by simp) ?_
  refine AllReadyH.cons (o := ?oz2x52) ?hiz2x52 ?hstz2x52 AllReadyH.nil
  case hiz2x52 => (simp only [List.getElem?_toArray, List.getElem?_cons_succ, List.getElem?_cons_zero]; rfl)
  intro K hK
  go_simp
  (go_at_call 19; (with_reducible refine (P5.out _).mono ?_); rintro e w25 ⟨rfl, hb25⟩)
  go_wp2_with fail
  refine hK.out _ _ ⟨Bx.Blk.keep hHeld.1 hb25, Bx.Blk.keep hHeld.2.1 hb25, Bx.Blk.keep hHeld.2.2.1 hb25, Bx.keep_cell hb25 hHeld.2.2.2.1, Bx.keep_cell hb25 hHeld.2.2.2.2.1, Bx.keep_cell hb25 hHeld.2.2.2.2.2.1, Bx.keep_cell hb25 hHeld.2.2.2.2.2.2.1, Bx.keep_cell hb25 hHeld.2.2.2.2.2.2.2⟩ (fun hNew => ?_)
  clear hHeld
  have hHeld := hNew
  clear hNew hK K
  replace bel := Lib.hid (Bx.then_below bel.out hb25)
  clear hb25
  refine wpAnyH_take (i := 53) (oi := ?oz2x53) (v := ?vz2x53) ?hiz2x53 (by kernel_rfl) (by kernel_rfl) (by kernel_rfl) (fun _ _ _ h => h) ?yz2x53 (by assumption) ?rz2x53
  case hiz2x53 => (simp only [List.getElem?_toArray, List.getElem?_cons_succ, List.getElem?_cons_zero]; rfl)
  case yz2x53 => (refine Or.inl ⟨by rfl, ?_⟩; intro w' hSw; (try dsimp only at hSw); go_simp; (try with_reducible rfl))
  try simp only [Act.put, List.setIfInBounds_toArray, List.set_cons_zero, List.set_cons_succ]
  refine wpAnyH_take (i := 54) (oi := ?oz2x54) (v := ?vz2x54) ?hiz2x54 (by kernel_rfl) (by kernel_rfl) (by kernel_rfl) (fun _ _ _ h => h) ?yz2x54 (by assumption) ?rz2x54
  case hiz2x54 => (simp only [List.getElem?_toArray, List.getElem?_cons_succ, List.getElem?_cons_zero]; rfl)
  case yz2x54 => (refine Or.inl ⟨by rfl, ?_⟩; intro w' hSw; (try dsimp only at hSw); go_simp; (try with_reducible rfl))
  try simp only [Act.put, List.setIfInBounds_toArray, List.set_cons_zero, List.set_cons_succ]
  refine wpAnyH_take (i := 55) (oi := ?oz2x55) (v := ?vz2x55) ?hiz2x55 (by kernel_rfl) (by kernel_rfl) (by kernel_rfl) (fun _ _ _ h => h) ?yz2x55 (by assumption) ?rz2x55
  case hiz2x55 => (simp only [List.getElem?_toArray, List.getElem?_cons_succ, List.getElem?_cons_zero]; rfl)
  case yz2x55 => (refine Or.inl ⟨by rfl, ?_⟩; intro w' hSw; (try dsimp only at hSw); go_simp; (try with_reducible rfl))
  try simp only [Act.put, List.setIfInBounds_toArray, List.set_cons_zero, List.set_cons_succ]
  refine wpAnyH_take (i := 56) (oi := ?oz2x56) (v := tdv rw2) ?hiz2x56 (by kernel_rfl) (by kernel_rfl) (by kernel_rfl) (fun _ _ _ h => h) ?yz2x56 (by assumption) ?rz2x56
  case hiz2x56 => (simp only [List.getElem?_toArray, List.getElem?_cons_succ, List.getElem?_cons_zero]; rfl)
  case yz2x56 => (refine td_yields rfl rfl (kT4) rfl rw2 ?_; intro w' hS; exact hS.2.2.1)
  try simp only [Act.put, List.setIfInBounds_toArray, List.set_cons_zero, List.set_cons_succ]
  refine wpAnyH_take (i := 58) (oi := ?oz2x58) (v := tdv rw2) ?hiz2x58 (by kernel_rfl) (by kernel_rfl) (by kernel_rfl) (fun _ _ _ h => h) ?yz2x58 (by assumption) ?rz2x58
  case hiz2x58 => (simp only [List.getElem?_toArray, List.getElem?_cons_succ, List.getElem?_cons_zero]; rfl)
  case yz2x58 => (refine td_yields rfl rfl (kT4) rfl rw2 ?_; intro w' hS; exact hS.2.2.1)
  try simp only [Act.put, List.setIfInBounds_toArray, List.set_cons_zero, List.set_cons_succ]
  refine wpAnyH_ready (rs := [57]) (by kernel_rfl) (by simp) ?_
  refine AllReadyH.cons (o := ?oz2x57) ?hiz2x57 ?hstz2x57 AllReadyH.nil
  case hiz2x57 => (simp only [List.getElem?_toArray, List.getElem?_cons_succ, List.getElem?_cons_zero]; rfl)
  intro K hK
  go_simp
  (go_at_call 13; (with_reducible refine (P6.out _).mono ?_); rintro e w26 ⟨rfl, hb26⟩)
  go_wp2_with fail
  refine hK.out _ _ ⟨Bx.Blk.keep hHeld.1 hb26, Bx.Blk.keep hHeld.2.1 hb26, Bx.Blk.keep hHeld.2.2.1 hb26, Bx.keep_cell hb26 hHeld.2.2.2.1, Bx.keep_cell hb26 hHeld.2.2.2.2.1, Bx.keep_cell hb26 hHeld.2.2.2.2.2.1, Bx.keep_cell hb26 hHeld.2.2.2.2.2.2.1, Bx.keep_cell hb26 hHeld.2.2.2.2.2.2.2⟩ (fun hNew => ?_)
  clear hHeld
  have hHeld := hNew
  clear hNew hK K
  replace bel := Lib.hid (Bx.then_below bel.out hb26)
  clear hb26
  refine wpAnyH_take (i := 59) (oi := ?oz2x59) (v := ?vz2x59) ?hiz2x59 (by kernel_rfl) (by kernel_rfl) (by kernel_rfl) (fun _ _ _ h => h) ?yz2x59 (by assumption) ?rz2x59
  case hiz2x59 => (simp only [List.getElem?_toArray, List.getElem?_cons_succ, List.getElem?_cons_zero]; rfl)
  case yz2x59 => (refine Or.inl ⟨by rfl, ?_⟩; intro w' hSw; (try dsimp only at hSw); go_simp; (try with_reducible rfl))
  try simp only [Act.put, List.setIfInBounds_toArray, List.set_cons_zero, List.set_cons_succ]
  refine wpAnyH_take (i := 60) (oi := ?oz2x60) (v := ?vz2x60) ?hiz2x60 (by kernel_rfl) (by kernel_rfl) (by kernel_rfl) (fun _ _ _ h => h) ?yz2x60 (by assumption) ?rz2x60
  case hiz2x60 => (simp only [List.getElem?_toArray, List.getElem?_cons_succ, List.getElem?_cons_zero]; rfl)
  case yz2x60 => (refine Or.inl ⟨by rfl, ?_⟩; intro w' hSw; (try dsimp only at hSw); go_simp; (try with_reducible rfl))
  try simp only [Act.put, List.setIfInBounds_toArray, List.set_cons_zero, List.set_cons_succ]
  refine wpAnyH_take (i := 61) (oi := ?oz2x61) (v := ?vz2x61) ?hiz2x61 (by kernel_rfl) (by kernel_rfl) (by kernel_rfl) (fun _ _ _ h => h) ?yz2x61 (by assumption) ?rz2x61
  case hiz2x61 => (simp only [List.getElem?_toArray, List.getElem?_cons_succ, List.getElem?_cons_zero]; rfl)
  case yz2x61 => (refine Or.inl ⟨by rfl, ?_⟩; intro w' hSw; (try dsimp only at hSw); go_simp; (try with_reducible rfl))
  try simp only [Act.put, List.setIfInBounds_toArray, List.set_cons_zero]
  refine wpAnyH_done (by kernel_rfl) ?_ _
  refine NoPanic.normal ?_
  clear hHeld
  go_wp2_with fail
  go_ret
  exact ⟨rfl, bel.out⟩

end Rip
end Go.Proofs.Ytihfganogemgkaa
