/-
  The law's awake.
-/
import Derived.Test.YtlaahomkgaaciaaEltI
import Derived.Test.YtlaahomkgaaciaaEltH
import Derived.Test.YtlaahomkgaaciaaEltF
import Derived.Deep.DeepCutAuto
namespace Go.Proofs.Ytlaahomkgaaciaa
open Go.RowKit
namespace Elt
open Pre Crd Tre

def e7 : Td := eleT al7
def c2 : Cd := Rsp.recvC (e7.cs 2) Rsp.b5
def tu1 : Td := { e7 with cs := upd e7.cs 2 c2 }
def c4 : Cd := Rsp.recvC (tu1.cs 4) Rsp.b5
def tu2 : Td := { tu1 with cs := upd tu1.cs 4 c4 }
def tu7 : Td := eleT tu2
theorem e7_is : e7.root = ⟨7, 0, 7, 0⟩ ∧ e7.port = -1 ∧ (e7.cs 0).role = 3 ∧ (e7.cs 0).tel = true ∧ actI e7 8 = 255 := by decide +kernel
theorem u7_is : tu7.port = 2 ∧ (rootR tu7).p = 2 ∧ (rootR tu7).v.r = 5 ∧ (rootR tu7).v.c = 10 ∧ roleN tu7 (rootR tu7) 2 = 2 ∧ roleN tu7 (rootR tu7) 4 = 1 ∧ (tu7.cs 0).v.r = 5 ∧ actI tu7 8 = 239 := by decide +kernel

set_option maxRecDepth 40000 in
set_option maxHeartbeats 8000000 in
theorem awake_any (w : World) : Calls Try.prog 14 #[] w fun e w' => e = .returned (.bool true) ∧ Below w.heap.size w w' := by
  have HA := Lib.hid alone_any
  have HE1 : Hid (∀ w, Calls Try.prog 10 #[tdv al7] w fun e w' => e = .returned (tdv e7) ∧ Below w.heap.size w w') := Lib.hid (elect_any al7)
  have HE2 : Hid (∀ w, Calls Try.prog 10 #[tdv tu2] w fun e w' => e = .returned (tdv tu7) ∧ Below w.heap.size w w') := Lib.hid (elect_any tu2)
  have H5 : Hid (∀ w, Calls Try.prog 32 #[.int .u64 5] w fun e w' => e = .returned (cdv (Rsp.someC 5)) ∧ Below w.heap.size w w') := Lib.hid (Rsp.some_any 5)
  have HM5 : Hid (∀ w, Calls Try.prog 31 #[cdv (Rsp.someC 5)] w fun e w' => e = .returned (bdv Rsp.b5) ∧ Below w.heap.size w w') := Lib.hid (Rsp.msg_any (Rsp.someC 5))
  have HC2 : Hid (∀ w, Calls Try.prog 30 #[cdv (e7.cs 2), bdv Rsp.b5] w fun e w' => e = .returned (.tuple #[cdv c2, .int .i64 (Rsp.sortI (e7.cs 2) Rsp.b5)]) ∧ Below w.heap.size w w') := Lib.hid (fun w => Rsp.recv_any (e7.cs 2) Rsp.b5 (by decide) (by decide) w)
  have HC4 : Hid (∀ w, Calls Try.prog 30 #[cdv (tu1.cs 4), bdv Rsp.b5] w fun e w' => e = .returned (.tuple #[cdv c4, .int .i64 (Rsp.sortI (tu1.cs 4) Rsp.b5)]) ∧ Below w.heap.size w w') := Lib.hid (fun w => Rsp.recv_any (tu1.cs 4) Rsp.b5 (by decide) (by decide) w)
  obtain ⟨hu0, hu1, hu2, hu3, hu4, hu5, hu6, hu8⟩ := u7_is
  obtain ⟨he1, he2, he3, he4, he5⟩ := e7_is
  have HR : Hid (∀ w, Calls Try.prog 6 #[tdv tu7] w fun e w' => e = .returned (.tuple #[vv (rootR tu7).v, tmv (rootR tu7).t, .int .i64 2]) ∧ Below w.heap.size w w') := Lib.hid (fun w => by have h := root_any tu7 w; rw [hu1] at h; exact h)
  have HL : Hid (∀ w, Calls Try.prog 8 #[tdv tu7] w fun e w' => e = .returned (i8v (roleN tu7 (rootR tu7))) ∧ Below w.heap.size w w') := Lib.hid (roles_any tu7)
  have HO : Hid (∀ w, Calls Try.prog 16 #[.int .u64 7] w fun e w' => e = .returned (vv ⟨7, 0, 7, 0⟩) ∧ Below w.heap.size w w') := Lib.hid (own_any 7)
  have HA1 : Hid (∀ w, Calls Try.prog 12 #[tdv e7] w fun e w' => e = .returned (.int .i64 255) ∧ Below w.heap.size w w') := Lib.hid (fun w => by have h := active_any e7 w; rw [he5] at h; exact h)
  have HA2 : Hid (∀ w, Calls Try.prog 12 #[tdv tu7] w fun e w' => e = .returned (.int .i64 239) ∧ Below w.heap.size w w') := Lib.hid (fun w => by have h := active_any tu7 w; rw [hu8] at h; exact h)
  have hv : ∀ w, (binOp .eql 26 (vv e7.root) (vv ⟨7, 0, 7, 0⟩)).run Try.prog w = .ok (.bool true) w := fun w => by rw [veql_at, he1]; rfl
  have hvg := fun op a y w => vguard_at op a y e7.root ⟨7, 0, 7, 0⟩ w
  clear hu1 hu8 he1 he5
  replace hu0 := Lib.hid hu0
  replace hu2 := Lib.hid hu2
  replace hu3 := Lib.hid hu3
  replace hu4 := Lib.hid hu4
  replace hu5 := Lib.hid hu5
  replace hu6 := Lib.hid hu6
  replace he2 := Lib.hid he2
  replace he3 := Lib.hid he3
  replace he4 := Lib.hid he4
  have hal := zero_at
  go_enter Try.func14, Try.ntmps14
  go_wp2_with fail
  refine (HA.out _).mono ?_; rintro e w1 ⟨rfl, hb⟩
  have bel := Lib.hid hb
  clear hb
  go_wp2_with fail
  refine (HE1.out _).mono ?_; rintro e w2 ⟨rfl, hb⟩
  replace bel := Lib.hid (Bx.then_below bel.out hb)
  clear hb
  have hw2 : Hid (w.heap.size ≤ w2.heap.size) := Lib.hid bel.out.size
  have T1 : Hid (Bx.Fre (w2.alloc (tdo e7)) w2.heap.size (tdl e7)) := Lib.hid (Bx.Fre.new w2 (tdl e7) 31)
  replace bel := Lib.hid (Bx.bel_box bel.out (tdo e7))
  replace T1 := Lib.hid (T1.out.more (tdo e7))
  have T2 : Hid (Bx.Fre ((w2.alloc (tdo e7)).alloc (tdo e7)) (w2.heap.size + 1) (tdl e7)) := Lib.hid (Bx.Fre.new_at (W := (w2.alloc (tdo e7))) (k := w2.heap.size + 1) (tdl e7) 31 (by simp))
  replace bel := Lib.hid (Bx.bel_box bel.out (tdo e7))
  go_upto_region 3 with (first | ((with_reducible refine td_fresh ?_ ?_ (w2.heap.size) e7 ?_ ?_ w2 (tdl Td.zero) ?_ ?_ ?_ ?_); (· rfl); (· rfl); (· rfl); (· rfl); (· exact tdl_len _); (· rfl); (· first | rfl | (simp; done))) | ((with_reducible refine td_fresh ?_ ?_ (w2.heap.size + 1) e7 ?_ ?_ (w2.alloc (tdo e7)) (tdl Td.zero) ?_ ?_ ?_ ?_); (· rfl); (· rfl); (· rfl); (· rfl); (· exact tdl_len _); (· rfl); (· first | rfl | (simp; done))) | ((with_reducible refine td_load ?_ ?_ (w2.heap.size) ?_ e7 ?_ ?_); (· rfl); (· rfl); (· rfl); (· exact Bx.Blk.new w2 (tdl e7) _)))
  obtain ⟨k1, hk1⟩ : ∃ k, k = w2.heap.size := ⟨_, rfl⟩
  have h1 : w.heap.size ≤ k1 := by rw [hk1]; exact hw2.out
  rw [← hk1] at T1 T2 ⊢
  generalize ((w2.alloc (tdo e7)).alloc (tdo e7)) = W3 at *
  clear hk1 hal
  try simp only [Act.put]
  go_cut [10] (fun _ wx => Below w.heap.size w wx ∧ Bx.Fre wx k1 (tdl e7) ∧ Bx.Fre wx (k1 + 1) (tdl tu1))
  case first =>
    refine wp_region_noPanic ?_
    refine wp_region_held_drew (S := fun w' => Bx.Blk w' k1 (tdl e7)) (by kernel_rfl) (by exact T1.out.blk) (fun hHeld => ?_)
    refine wpAnyH_take (i := 0) (oi := ?ot1x1) (v := ?vt1x1) ?hit1x1 (by kernel_rfl) (by kernel_rfl) (by kernel_rfl) (fun _ _ _ h => h) ?yt1x1 (by assumption) ?rt1x1
    case hit1x1 => (simp only [List.getElem?_toArray, List.getElem?_cons_zero]; rfl)
    case yt1x1 => (refine Or.inl ⟨by rfl, ?_⟩; intro w' hSw; (try dsimp only at hSw); go_simp; (try with_reducible rfl))
    try simp only [Act.put, List.setIfInBounds_toArray, List.set_cons_zero, List.set_cons_succ]
    refine wpAnyH_take (i := 1) (oi := ?ot1x2) (v := ?vt1x2) ?hit1x2 (by kernel_rfl) (by kernel_rfl) (by kernel_rfl) (fun _ _ _ h => h) ?yt1x2 (by assumption) ?rt1x2
    case hit1x2 => (simp only [List.getElem?_toArray, List.getElem?_cons_succ, List.getElem?_cons_zero]; rfl)
    case yt1x2 => (refine Or.inl ⟨by rfl, ?_⟩; intro w' hSw; (try dsimp only at hSw); go_simp; (try with_reducible rfl))
    try simp only [Act.put, List.setIfInBounds_toArray, List.set_cons_zero, List.set_cons_succ]
    refine wpAnyH_take (i := 9) (oi := ?ot1x3) (v := ?vt1x3) ?hit1x3 (by kernel_rfl) (by kernel_rfl) (by kernel_rfl) (fun _ _ _ h => h) ?yt1x3 (by assumption) ?rt1x3
    case hit1x3 => (simp only [List.getElem?_toArray, List.getElem?_cons_succ, List.getElem?_cons_zero]; rfl)
    case yt1x3 => (refine Or.inl ⟨by rfl, ?_⟩; intro w' hSw; (try dsimp only at hSw); go_simp; (try with_reducible rfl))
    try simp only [Act.put, List.setIfInBounds_toArray, List.set_cons_zero, List.set_cons_succ]
    refine wpAnyH_ready (rs := [2, 3]) (by kernel_rfl) (by simp) ?_
    refine AllReadyH.cons (o := ?ot1x4) ?hit1x4 ?hstt1x4 (AllReadyH.cons (o := ?ot1x5) ?hit1x5 ?hstt1x5 AllReadyH.nil)
    case hit1x4 => (simp only [List.getElem?_toArray, List.getElem?_cons_succ, List.getElem?_cons_zero]; rfl)
    case hit1x5 => (simp only [List.getElem?_toArray, List.getElem?_cons_succ, List.getElem?_cons_zero]; rfl)
    case hstt1x4 =>
      intro K hK
      rw [if_pos (by rfl)]
      refine ccr_wp rfl (k1 + 1) 2 (by omega) rfl e7 T2.out.drew.blk ?_
      refine hK.out _ _ hHeld (fun _ => ?_)
      clear hK K
      try simp only [Act.put, List.setIfInBounds_toArray, List.set_cons_zero, List.set_cons_succ]
      refine wpAnyH_ready (rs := [3]) (by kernel_rfl) (by simp) ?_
      refine AllReadyH.cons (o := ?ot1x7) ?hit1x7 ?hstt1x7 AllReadyH.nil
      case hit1x7 => (simp only [List.getElem?_toArray, List.getElem?_cons_succ, List.getElem?_cons_zero]; rfl)
      intro K hK
      go_simp
      (go_at_call 32; (with_reducible refine (H5.out _).mono ?_); rintro e vt1x8 ⟨rfl, hb⟩)
      go_wp2_with fail
      refine hK.out _ _ (by exact Bx.Blk.keep hHeld hb) (fun hNew => ?_)
      clear hHeld
      have hHeld := hNew
      clear hNew hK K
      replace bel := Lib.hid (Bx.then_below (Bx.bel_drewn bel.out) hb)
      replace T1 := Lib.hid (T1.out.drew.keep hb)
      replace T2 := Lib.hid (T2.out.drew.keep hb)
      clear hb
      refine wpAnyH_ready (rs := [4]) (by kernel_rfl) (by simp) ?_
      refine AllReadyH.cons (o := ?ot1x9) ?hit1x9 ?hstt1x9 AllReadyH.nil
      case hit1x9 => (simp only [List.getElem?_toArray, List.getElem?_cons_succ, List.getElem?_cons_zero]; rfl)
      intro K hK
      go_simp
      (go_at_call 31; (with_reducible refine (HM5.out _).mono ?_); rintro e vt1x10 ⟨rfl, hb⟩)
      go_wp2_with fail
      refine hK.out _ _ (by exact Bx.Blk.keep hHeld hb) (fun hNew => ?_)
      clear hHeld
      have hHeld := hNew
      clear hNew hK K
      replace bel := Lib.hid (Bx.then_below bel.out hb)
      replace T1 := Lib.hid (T1.out.keep hb)
      replace T2 := Lib.hid (T2.out.keep hb)
      clear hb
      refine wpAnyH_ready (rs := [5]) (by kernel_rfl) (by simp) ?_
      refine AllReadyH.cons (o := ?ot1x11) ?hit1x11 ?hstt1x11 AllReadyH.nil
      case hit1x11 => (simp only [List.getElem?_toArray, List.getElem?_cons_succ, List.getElem?_cons_zero]; rfl)
      intro K hK
      go_simp
      (go_at_call 30; (with_reducible refine (HC2.out _).mono ?_); rintro e vt1x12 ⟨rfl, hb⟩)
      go_wp2_with fail
      refine hK.out _ _ (by exact Bx.Blk.keep hHeld hb) (fun hNew => ?_)
      clear hHeld
      have hHeld := hNew
      clear hNew hK K
      replace bel := Lib.hid (Bx.then_below bel.out hb)
      replace T1 := Lib.hid (T1.out.keep hb)
      replace T2 := Lib.hid (T2.out.keep hb)
      clear hb
      refine wpAnyH_take (i := 6) (oi := ?ot1x13) (v := ?vt1x13) ?hit1x13 (by kernel_rfl) (by kernel_rfl) (by kernel_rfl) (fun _ _ _ h => h) ?yt1x13 (by assumption) ?rt1x13
      case hit1x13 => (simp only [List.getElem?_toArray, List.getElem?_cons_succ, List.getElem?_cons_zero]; rfl)
      case yt1x13 => (refine Or.inl ⟨by rfl, ?_⟩; intro w' hSw; (try dsimp only at hSw); go_simp; (try with_reducible rfl))
      try simp only [Act.put, List.setIfInBounds_toArray, List.set_cons_zero, List.set_cons_succ]
      refine wpAnyH_take (i := 7) (oi := ?ot1x14) (v := ?vt1x14) ?hit1x14 (by kernel_rfl) (by kernel_rfl) (by kernel_rfl) (fun _ _ _ h => h) ?yt1x14 (by assumption) ?rt1x14
      case hit1x14 => (simp only [List.getElem?_toArray, List.getElem?_cons_succ, List.getElem?_cons_zero]; rfl)
      case yt1x14 => (refine Or.inl ⟨by rfl, ?_⟩; intro w' hSw; (try dsimp only at hSw); go_simp; (try with_reducible rfl))
      try simp only [Act.put, List.setIfInBounds_toArray, List.set_cons_zero, List.set_cons_succ]
      refine wpAnyH_take (i := 8) (oi := ?ot1x15) (v := ?vt1x15) ?hit1x15 (by kernel_rfl) (by kernel_rfl) (by kernel_rfl) (fun _ _ _ h => h) ?yt1x15 (by assumption) ?rt1x15
      case hit1x15 => (simp only [List.getElem?_toArray, List.getElem?_cons_succ, List.getElem?_cons_zero]; rfl)
      case yt1x15 => (refine Or.inl ⟨by rfl, ?_⟩; intro w' hSw; (try dsimp only at hSw); go_simp; (try with_reducible rfl))
      try simp only [Act.put, List.setIfInBounds_toArray, List.set_cons_zero, List.set_cons_succ]
      refine wpAnyH_take (i := 10) (oi := ?ot1x16) (v := ?vt1x16) ?hit1x16 (by kernel_rfl) (by kernel_rfl) (by kernel_rfl) (fun _ _ _ h => h) ?yt1x16 (by assumption) ?rt1x16
      case hit1x16 => (simp only [List.getElem?_toArray, List.getElem?_cons_succ, List.getElem?_cons_zero]; rfl)
      case yt1x16 => (refine Or.inl ⟨by rfl, ?_⟩; intro w' hSw; (try dsimp only at hSw); go_simp; (try with_reducible rfl))
      try simp only [Act.put, List.setIfInBounds_toArray, List.set_cons_zero, List.set_cons_succ]
      refine wpAnyH_ready (rs := [11]) (by kernel_rfl) (by simp) ?_
      refine AllReadyH.cons (o := ?ot1x17) ?hit1x17 ?hstt1x17 AllReadyH.nil
      case hit1x17 => (simp only [List.getElem?_toArray, List.getElem?_cons_succ, List.getElem?_cons_zero]; rfl)
      intro K hK
      rw [if_pos (by rfl)]
      refine cc_wp rfl (k1 + 1) 2 (by omega) rfl c2 rfl e7 T2.out ?_
      refine hK.out _ _ (by exact Bx.Blk.apart_at _ _ (by omega) hHeld) (fun hNew => ?_)
      clear hHeld
      have hHeld := hNew
      clear hNew hK K
      try simp only [Act.put]
      replace bel := Lib.hid (Bx.bel_put_at (k := k1 + 1) (cdl c2) (14 + 2 * 31) (by omega) bel.out)
      replace T1 := Lib.hid (T1.out.apart_at (k' := k1 + 1) (cdl c2) (14 + 2 * 31) (by omega))
      replace T2 := Lib.hid ((Bx.Fre.put_at (cdl c2) (14 + 2 * 31) T2.out).of (m := tdl tu1) (tdl_upd e7 2 (by omega) c2))
      generalize vt1x12.setCells (k1 + 1) (14 + 2 * 31) (cdl c2) = vt1x18 at *
      refine wpAnyH_done (by kernel_rfl) ?_ _
      refine NoPanic.normal ?_
      go_wp2_with fail
      go_meet
      exact ⟨bel.out, T1.out, T2.out⟩
    case hstt1x5 =>
      intro K hK
      go_simp
      (go_at_call 32; (with_reducible refine (H5.out _).mono ?_); rintro e vt1x19 ⟨rfl, hb⟩)
      go_wp2_with fail
      refine hK.out _ _ (by exact Bx.Blk.keep hHeld hb) (fun hNew => ?_)
      clear hHeld
      have hHeld := hNew
      clear hNew hK K
      replace bel := Lib.hid (Bx.then_below (Bx.bel_drewn bel.out) hb)
      replace T1 := Lib.hid (T1.out.drew.keep hb)
      replace T2 := Lib.hid (T2.out.drew.keep hb)
      clear hb
      refine wpAnyH_ready (rs := [2, 4]) (by kernel_rfl) (by simp) ?_
      refine AllReadyH.cons (o := ?ot1x20) ?hit1x20 ?hstt1x20 (AllReadyH.cons (o := ?ot1x21) ?hit1x21 ?hstt1x21 AllReadyH.nil)
      case hit1x20 => (simp only [List.getElem?_toArray, List.getElem?_cons_succ, List.getElem?_cons_zero]; rfl)
      case hit1x21 => (simp only [List.getElem?_toArray, List.getElem?_cons_succ, List.getElem?_cons_zero]; rfl)
      case hstt1x20 =>
        intro K hK
        rw [if_pos (by rfl)]
        refine ccr_wp rfl (k1 + 1) 2 (by omega) rfl e7 T2.out.blk ?_
        refine hK.out _ _ hHeld (fun _ => ?_)
        clear hK K
        try simp only [Act.put, List.setIfInBounds_toArray, List.set_cons_zero, List.set_cons_succ]
        refine wpAnyH_ready (rs := [4]) (by kernel_rfl) (by simp) ?_
        refine AllReadyH.cons (o := ?ot1x23) ?hit1x23 ?hstt1x23 AllReadyH.nil
        case hit1x23 => (simp only [List.getElem?_toArray, List.getElem?_cons_succ, List.getElem?_cons_zero]; rfl)
        intro K hK
        go_simp
        (go_at_call 31; (with_reducible refine (HM5.out _).mono ?_); rintro e vt1x24 ⟨rfl, hb⟩)
        go_wp2_with fail
        refine hK.out _ _ (by exact Bx.Blk.keep hHeld hb) (fun hNew => ?_)
        clear hHeld
        have hHeld := hNew
        clear hNew hK K
        replace bel := Lib.hid (Bx.then_below bel.out hb)
        replace T1 := Lib.hid (T1.out.keep hb)
        replace T2 := Lib.hid (T2.out.keep hb)
        clear hb
        refine wpAnyH_ready (rs := [5]) (by kernel_rfl) (by simp) ?_
        refine AllReadyH.cons (o := ?ot1x25) ?hit1x25 ?hstt1x25 AllReadyH.nil
        case hit1x25 => (simp only [List.getElem?_toArray, List.getElem?_cons_succ, List.getElem?_cons_zero]; rfl)
        intro K hK
        go_simp
        (go_at_call 30; (with_reducible refine (HC2.out _).mono ?_); rintro e vt1x26 ⟨rfl, hb⟩)
        go_wp2_with fail
        refine hK.out _ _ (by exact Bx.Blk.keep hHeld hb) (fun hNew => ?_)
        clear hHeld
        have hHeld := hNew
        clear hNew hK K
        replace bel := Lib.hid (Bx.then_below bel.out hb)
        replace T1 := Lib.hid (T1.out.keep hb)
        replace T2 := Lib.hid (T2.out.keep hb)
        clear hb
        refine wpAnyH_take (i := 6) (oi := ?ot1x27) (v := ?vt1x27) ?hit1x27 (by kernel_rfl) (by kernel_rfl) (by kernel_rfl) (fun _ _ _ h => h) ?yt1x27 (by assumption) ?rt1x27
        case hit1x27 => (simp only [List.getElem?_toArray, List.getElem?_cons_succ, List.getElem?_cons_zero]; rfl)
        case yt1x27 => (refine Or.inl ⟨by rfl, ?_⟩; intro w' hSw; (try dsimp only at hSw); go_simp; (try with_reducible rfl))
        try simp only [Act.put, List.setIfInBounds_toArray, List.set_cons_zero, List.set_cons_succ]
        refine wpAnyH_take (i := 7) (oi := ?ot1x28) (v := ?vt1x28) ?hit1x28 (by kernel_rfl) (by kernel_rfl) (by kernel_rfl) (fun _ _ _ h => h) ?yt1x28 (by assumption) ?rt1x28
        case hit1x28 => (simp only [List.getElem?_toArray, List.getElem?_cons_succ, List.getElem?_cons_zero]; rfl)
        case yt1x28 => (refine Or.inl ⟨by rfl, ?_⟩; intro w' hSw; (try dsimp only at hSw); go_simp; (try with_reducible rfl))
        try simp only [Act.put, List.setIfInBounds_toArray, List.set_cons_zero, List.set_cons_succ]
        refine wpAnyH_take (i := 8) (oi := ?ot1x29) (v := ?vt1x29) ?hit1x29 (by kernel_rfl) (by kernel_rfl) (by kernel_rfl) (fun _ _ _ h => h) ?yt1x29 (by assumption) ?rt1x29
        case hit1x29 => (simp only [List.getElem?_toArray, List.getElem?_cons_succ, List.getElem?_cons_zero]; rfl)
        case yt1x29 => (refine Or.inl ⟨by rfl, ?_⟩; intro w' hSw; (try dsimp only at hSw); go_simp; (try with_reducible rfl))
        try simp only [Act.put, List.setIfInBounds_toArray, List.set_cons_zero, List.set_cons_succ]
        refine wpAnyH_take (i := 10) (oi := ?ot1x30) (v := ?vt1x30) ?hit1x30 (by kernel_rfl) (by kernel_rfl) (by kernel_rfl) (fun _ _ _ h => h) ?yt1x30 (by assumption) ?rt1x30
        case hit1x30 => (simp only [List.getElem?_toArray, List.getElem?_cons_succ, List.getElem?_cons_zero]; rfl)
        case yt1x30 => (refine Or.inl ⟨by rfl, ?_⟩; intro w' hSw; (try dsimp only at hSw); go_simp; (try with_reducible rfl))
        try simp only [Act.put, List.setIfInBounds_toArray, List.set_cons_zero, List.set_cons_succ]
        refine wpAnyH_ready (rs := [11]) (by kernel_rfl) (by simp) ?_
        refine AllReadyH.cons (o := ?ot1x31) ?hit1x31 ?hstt1x31 AllReadyH.nil
        case hit1x31 => (simp only [List.getElem?_toArray, List.getElem?_cons_succ, List.getElem?_cons_zero]; rfl)
        intro K hK
        rw [if_pos (by rfl)]
        refine cc_wp rfl (k1 + 1) 2 (by omega) rfl c2 rfl e7 T2.out ?_
        refine hK.out _ _ (by exact Bx.Blk.apart_at _ _ (by omega) hHeld) (fun hNew => ?_)
        clear hHeld
        have hHeld := hNew
        clear hNew hK K
        try simp only [Act.put]
        replace bel := Lib.hid (Bx.bel_put_at (k := k1 + 1) (cdl c2) (14 + 2 * 31) (by omega) bel.out)
        replace T1 := Lib.hid (T1.out.apart_at (k' := k1 + 1) (cdl c2) (14 + 2 * 31) (by omega))
        replace T2 := Lib.hid ((Bx.Fre.put_at (cdl c2) (14 + 2 * 31) T2.out).of (m := tdl tu1) (tdl_upd e7 2 (by omega) c2))
        generalize vt1x26.setCells (k1 + 1) (14 + 2 * 31) (cdl c2) = vt1x32 at *
        refine wpAnyH_done (by kernel_rfl) ?_ _
        refine NoPanic.normal ?_
        go_wp2_with fail
        go_meet
        exact ⟨bel.out, T1.out, T2.out⟩
      case hstt1x21 =>
        intro K hK
        go_simp
        (go_at_call 31; (with_reducible refine (HM5.out _).mono ?_); rintro e vt1x33 ⟨rfl, hb⟩)
        go_wp2_with fail
        refine hK.out _ _ (by exact Bx.Blk.keep hHeld hb) (fun hNew => ?_)
        clear hHeld
        have hHeld := hNew
        clear hNew hK K
        replace bel := Lib.hid (Bx.then_below bel.out hb)
        replace T1 := Lib.hid (T1.out.keep hb)
        replace T2 := Lib.hid (T2.out.keep hb)
        clear hb
        refine wpAnyH_ready (rs := [2]) (by kernel_rfl) (by simp) ?_
        refine AllReadyH.cons (o := ?ot1x34) ?hit1x34 ?hstt1x34 AllReadyH.nil
        case hit1x34 => (simp only [List.getElem?_toArray, List.getElem?_cons_succ, List.getElem?_cons_zero]; rfl)
        intro K hK
        rw [if_pos (by rfl)]
        refine ccr_wp rfl (k1 + 1) 2 (by omega) rfl e7 T2.out.blk ?_
        refine hK.out _ _ hHeld (fun _ => ?_)
        clear hK K
        try simp only [Act.put, List.setIfInBounds_toArray, List.set_cons_zero, List.set_cons_succ]
        refine wpAnyH_ready (rs := [5]) (by kernel_rfl) (by simp) ?_
        refine AllReadyH.cons (o := ?ot1x36) ?hit1x36 ?hstt1x36 AllReadyH.nil
        case hit1x36 => (simp only [List.getElem?_toArray, List.getElem?_cons_succ, List.getElem?_cons_zero]; rfl)
        intro K hK
        go_simp
        (go_at_call 30; (with_reducible refine (HC2.out _).mono ?_); rintro e vt1x37 ⟨rfl, hb⟩)
        go_wp2_with fail
        refine hK.out _ _ (by exact Bx.Blk.keep hHeld hb) (fun hNew => ?_)
        clear hHeld
        have hHeld := hNew
        clear hNew hK K
        replace bel := Lib.hid (Bx.then_below bel.out hb)
        replace T1 := Lib.hid (T1.out.keep hb)
        replace T2 := Lib.hid (T2.out.keep hb)
        clear hb
        refine wpAnyH_take (i := 6) (oi := ?ot1x38) (v := ?vt1x38) ?hit1x38 (by kernel_rfl) (by kernel_rfl) (by kernel_rfl) (fun _ _ _ h => h) ?yt1x38 (by assumption) ?rt1x38
        case hit1x38 => (simp only [List.getElem?_toArray, List.getElem?_cons_succ, List.getElem?_cons_zero]; rfl)
        case yt1x38 => (refine Or.inl ⟨by rfl, ?_⟩; intro w' hSw; (try dsimp only at hSw); go_simp; (try with_reducible rfl))
        try simp only [Act.put, List.setIfInBounds_toArray, List.set_cons_zero, List.set_cons_succ]
        refine wpAnyH_take (i := 7) (oi := ?ot1x39) (v := ?vt1x39) ?hit1x39 (by kernel_rfl) (by kernel_rfl) (by kernel_rfl) (fun _ _ _ h => h) ?yt1x39 (by assumption) ?rt1x39
        case hit1x39 => (simp only [List.getElem?_toArray, List.getElem?_cons_succ, List.getElem?_cons_zero]; rfl)
        case yt1x39 => (refine Or.inl ⟨by rfl, ?_⟩; intro w' hSw; (try dsimp only at hSw); go_simp; (try with_reducible rfl))
        try simp only [Act.put, List.setIfInBounds_toArray, List.set_cons_zero, List.set_cons_succ]
        refine wpAnyH_take (i := 8) (oi := ?ot1x40) (v := ?vt1x40) ?hit1x40 (by kernel_rfl) (by kernel_rfl) (by kernel_rfl) (fun _ _ _ h => h) ?yt1x40 (by assumption) ?rt1x40
        case hit1x40 => (simp only [List.getElem?_toArray, List.getElem?_cons_succ, List.getElem?_cons_zero]; rfl)
        case yt1x40 => (refine Or.inl ⟨by rfl, ?_⟩; intro w' hSw; (try dsimp only at hSw); go_simp; (try with_reducible rfl))
        try simp only [Act.put, List.setIfInBounds_toArray, List.set_cons_zero, List.set_cons_succ]
        refine wpAnyH_take (i := 10) (oi := ?ot1x41) (v := ?vt1x41) ?hit1x41 (by kernel_rfl) (by kernel_rfl) (by kernel_rfl) (fun _ _ _ h => h) ?yt1x41 (by assumption) ?rt1x41
        case hit1x41 => (simp only [List.getElem?_toArray, List.getElem?_cons_succ, List.getElem?_cons_zero]; rfl)
        case yt1x41 => (refine Or.inl ⟨by rfl, ?_⟩; intro w' hSw; (try dsimp only at hSw); go_simp; (try with_reducible rfl))
        try simp only [Act.put, List.setIfInBounds_toArray, List.set_cons_zero, List.set_cons_succ]
        refine wpAnyH_ready (rs := [11]) (by kernel_rfl) (by simp) ?_
        refine AllReadyH.cons (o := ?ot1x42) ?hit1x42 ?hstt1x42 AllReadyH.nil
        case hit1x42 => (simp only [List.getElem?_toArray, List.getElem?_cons_succ, List.getElem?_cons_zero]; rfl)
        intro K hK
        rw [if_pos (by rfl)]
        refine cc_wp rfl (k1 + 1) 2 (by omega) rfl c2 rfl e7 T2.out ?_
        refine hK.out _ _ (by exact Bx.Blk.apart_at _ _ (by omega) hHeld) (fun hNew => ?_)
        clear hHeld
        have hHeld := hNew
        clear hNew hK K
        try simp only [Act.put]
        replace bel := Lib.hid (Bx.bel_put_at (k := k1 + 1) (cdl c2) (14 + 2 * 31) (by omega) bel.out)
        replace T1 := Lib.hid (T1.out.apart_at (k' := k1 + 1) (cdl c2) (14 + 2 * 31) (by omega))
        replace T2 := Lib.hid ((Bx.Fre.put_at (cdl c2) (14 + 2 * 31) T2.out).of (m := tdl tu1) (tdl_upd e7 2 (by omega) c2))
        generalize vt1x37.setCells (k1 + 1) (14 + 2 * 31) (cdl c2) = vt1x43 at *
        refine wpAnyH_done (by kernel_rfl) ?_ _
        refine NoPanic.normal ?_
        go_wp2_with fail
        go_meet
        exact ⟨bel.out, T1.out, T2.out⟩
  case rest =>
  clear T1 T2 bel
  obtain ⟨bel, T1, T2⟩ := hcut
  replace bel := Lib.hid bel
  replace T1 := Lib.hid T1
  replace T2 := Lib.hid T2
  go_upto_region 4 with fail
  try simp only [Act.put]
  go_cut [21] (fun _ wx => Below w.heap.size w wx ∧ Bx.Fre wx k1 (tdl e7) ∧ Bx.Fre wx (k1 + 1) (tdl tu2))
  case first =>
    refine wp_region_noPanic ?_
    refine wp_region_held_drew (S := fun w' => Bx.Blk w' k1 (tdl e7)) (by kernel_rfl) (by exact T1.out.blk) (fun hHeld => ?_)
    refine wpAnyH_take (i := 0) (oi := ?ot2x1) (v := ?vt2x1) ?hit2x1 (by kernel_rfl) (by kernel_rfl) (by kernel_rfl) (fun _ _ _ h => h) ?yt2x1 (by assumption) ?rt2x1
    case hit2x1 => (simp only [List.getElem?_toArray, List.getElem?_cons_zero]; rfl)
    case yt2x1 => (refine Or.inl ⟨by rfl, ?_⟩; intro w' hSw; (try dsimp only at hSw); go_simp; (try with_reducible rfl))
    try simp only [Act.put, List.setIfInBounds_toArray, List.set_cons_zero, List.set_cons_succ]
    refine wpAnyH_take (i := 1) (oi := ?ot2x2) (v := ?vt2x2) ?hit2x2 (by kernel_rfl) (by kernel_rfl) (by kernel_rfl) (fun _ _ _ h => h) ?yt2x2 (by assumption) ?rt2x2
    case hit2x2 => (simp only [List.getElem?_toArray, List.getElem?_cons_succ, List.getElem?_cons_zero]; rfl)
    case yt2x2 => (refine Or.inl ⟨by rfl, ?_⟩; intro w' hSw; (try dsimp only at hSw); go_simp; (try with_reducible rfl))
    try simp only [Act.put, List.setIfInBounds_toArray, List.set_cons_zero, List.set_cons_succ]
    refine wpAnyH_take (i := 9) (oi := ?ot2x3) (v := ?vt2x3) ?hit2x3 (by kernel_rfl) (by kernel_rfl) (by kernel_rfl) (fun _ _ _ h => h) ?yt2x3 (by assumption) ?rt2x3
    case hit2x3 => (simp only [List.getElem?_toArray, List.getElem?_cons_succ, List.getElem?_cons_zero]; rfl)
    case yt2x3 => (refine Or.inl ⟨by rfl, ?_⟩; intro w' hSw; (try dsimp only at hSw); go_simp; (try with_reducible rfl))
    try simp only [Act.put, List.setIfInBounds_toArray, List.set_cons_zero, List.set_cons_succ]
    refine wpAnyH_ready (rs := [2, 3]) (by kernel_rfl) (by simp) ?_
    refine AllReadyH.cons (o := ?ot2x4) ?hit2x4 ?hstt2x4 (AllReadyH.cons (o := ?ot2x5) ?hit2x5 ?hstt2x5 AllReadyH.nil)
    case hit2x4 => (simp only [List.getElem?_toArray, List.getElem?_cons_succ, List.getElem?_cons_zero]; rfl)
    case hit2x5 => (simp only [List.getElem?_toArray, List.getElem?_cons_succ, List.getElem?_cons_zero]; rfl)
    case hstt2x4 =>
      intro K hK
      rw [if_pos (by rfl)]
      refine ccr_wp rfl (k1 + 1) 4 (by omega) rfl tu1 T2.out.drew.blk ?_
      refine hK.out _ _ hHeld (fun _ => ?_)
      clear hK K
      try simp only [Act.put, List.setIfInBounds_toArray, List.set_cons_zero, List.set_cons_succ]
      refine wpAnyH_ready (rs := [3]) (by kernel_rfl) (by simp) ?_
      refine AllReadyH.cons (o := ?ot2x7) ?hit2x7 ?hstt2x7 AllReadyH.nil
      case hit2x7 => (simp only [List.getElem?_toArray, List.getElem?_cons_succ, List.getElem?_cons_zero]; rfl)
      intro K hK
      go_simp
      (go_at_call 32; (with_reducible refine (H5.out _).mono ?_); rintro e vt2x8 ⟨rfl, hb⟩)
      go_wp2_with fail
      refine hK.out _ _ (by exact Bx.Blk.keep hHeld hb) (fun hNew => ?_)
      clear hHeld
      have hHeld := hNew
      clear hNew hK K
      replace bel := Lib.hid (Bx.then_below (Bx.bel_drewn bel.out) hb)
      replace T1 := Lib.hid (T1.out.drew.keep hb)
      replace T2 := Lib.hid (T2.out.drew.keep hb)
      clear hb
      refine wpAnyH_ready (rs := [4]) (by kernel_rfl) (by simp) ?_
      refine AllReadyH.cons (o := ?ot2x9) ?hit2x9 ?hstt2x9 AllReadyH.nil
      case hit2x9 => (simp only [List.getElem?_toArray, List.getElem?_cons_succ, List.getElem?_cons_zero]; rfl)
      intro K hK
      go_simp
      (go_at_call 31; (with_reducible refine (HM5.out _).mono ?_); rintro e vt2x10 ⟨rfl, hb⟩)
      go_wp2_with fail
      refine hK.out _ _ (by exact Bx.Blk.keep hHeld hb) (fun hNew => ?_)
      clear hHeld
      have hHeld := hNew
      clear hNew hK K
      replace bel := Lib.hid (Bx.then_below bel.out hb)
      replace T1 := Lib.hid (T1.out.keep hb)
      replace T2 := Lib.hid (T2.out.keep hb)
      clear hb
      refine wpAnyH_ready (rs := [5]) (by kernel_rfl) (by simp) ?_
      refine AllReadyH.cons (o := ?ot2x11) ?hit2x11 ?hstt2x11 AllReadyH.nil
      case hit2x11 => (simp only [List.getElem?_toArray, List.getElem?_cons_succ, List.getElem?_cons_zero]; rfl)
      intro K hK
      go_simp
      (go_at_call 30; (with_reducible refine (HC4.out _).mono ?_); rintro e vt2x12 ⟨rfl, hb⟩)
      go_wp2_with fail
      refine hK.out _ _ (by exact Bx.Blk.keep hHeld hb) (fun hNew => ?_)
      clear hHeld
      have hHeld := hNew
      clear hNew hK K
      replace bel := Lib.hid (Bx.then_below bel.out hb)
      replace T1 := Lib.hid (T1.out.keep hb)
      replace T2 := Lib.hid (T2.out.keep hb)
      clear hb
      refine wpAnyH_take (i := 6) (oi := ?ot2x13) (v := ?vt2x13) ?hit2x13 (by kernel_rfl) (by kernel_rfl) (by kernel_rfl) (fun _ _ _ h => h) ?yt2x13 (by assumption) ?rt2x13
      case hit2x13 => (simp only [List.getElem?_toArray, List.getElem?_cons_succ, List.getElem?_cons_zero]; rfl)
      case yt2x13 => (refine Or.inl ⟨by rfl, ?_⟩; intro w' hSw; (try dsimp only at hSw); go_simp; (try with_reducible rfl))
      try simp only [Act.put, List.setIfInBounds_toArray, List.set_cons_zero, List.set_cons_succ]
      refine wpAnyH_take (i := 7) (oi := ?ot2x14) (v := ?vt2x14) ?hit2x14 (by kernel_rfl) (by kernel_rfl) (by kernel_rfl) (fun _ _ _ h => h) ?yt2x14 (by assumption) ?rt2x14
      case hit2x14 => (simp only [List.getElem?_toArray, List.getElem?_cons_succ, List.getElem?_cons_zero]; rfl)
      case yt2x14 => (refine Or.inl ⟨by rfl, ?_⟩; intro w' hSw; (try dsimp only at hSw); go_simp; (try with_reducible rfl))
      try simp only [Act.put, List.setIfInBounds_toArray, List.set_cons_zero, List.set_cons_succ]
      refine wpAnyH_take (i := 8) (oi := ?ot2x15) (v := ?vt2x15) ?hit2x15 (by kernel_rfl) (by kernel_rfl) (by kernel_rfl) (fun _ _ _ h => h) ?yt2x15 (by assumption) ?rt2x15
      case hit2x15 => (simp only [List.getElem?_toArray, List.getElem?_cons_succ, List.getElem?_cons_zero]; rfl)
      case yt2x15 => (refine Or.inl ⟨by rfl, ?_⟩; intro w' hSw; (try dsimp only at hSw); go_simp; (try with_reducible rfl))
      try simp only [Act.put, List.setIfInBounds_toArray, List.set_cons_zero, List.set_cons_succ]
      refine wpAnyH_take (i := 10) (oi := ?ot2x16) (v := ?vt2x16) ?hit2x16 (by kernel_rfl) (by kernel_rfl) (by kernel_rfl) (fun _ _ _ h => h) ?yt2x16 (by assumption) ?rt2x16
      case hit2x16 => (simp only [List.getElem?_toArray, List.getElem?_cons_succ, List.getElem?_cons_zero]; rfl)
      case yt2x16 => (refine Or.inl ⟨by rfl, ?_⟩; intro w' hSw; (try dsimp only at hSw); go_simp; (try with_reducible rfl))
      try simp only [Act.put, List.setIfInBounds_toArray, List.set_cons_zero, List.set_cons_succ]
      refine wpAnyH_ready (rs := [11]) (by kernel_rfl) (by simp) ?_
      refine AllReadyH.cons (o := ?ot2x17) ?hit2x17 ?hstt2x17 AllReadyH.nil
      case hit2x17 => (simp only [List.getElem?_toArray, List.getElem?_cons_succ, List.getElem?_cons_zero]; rfl)
      intro K hK
      rw [if_pos (by rfl)]
      refine cc_wp rfl (k1 + 1) 4 (by omega) rfl c4 rfl tu1 T2.out ?_
      refine hK.out _ _ (by exact Bx.Blk.apart_at _ _ (by omega) hHeld) (fun hNew => ?_)
      clear hHeld
      have hHeld := hNew
      clear hNew hK K
      try simp only [Act.put]
      replace bel := Lib.hid (Bx.bel_put_at (k := k1 + 1) (cdl c4) (14 + 4 * 31) (by omega) bel.out)
      replace T1 := Lib.hid (T1.out.apart_at (k' := k1 + 1) (cdl c4) (14 + 4 * 31) (by omega))
      replace T2 := Lib.hid ((Bx.Fre.put_at (cdl c4) (14 + 4 * 31) T2.out).of (m := tdl tu2) (tdl_upd tu1 4 (by omega) c4))
      generalize vt2x12.setCells (k1 + 1) (14 + 4 * 31) (cdl c4) = vt2x18 at *
      refine wpAnyH_done (by kernel_rfl) ?_ _
      refine NoPanic.normal ?_
      go_wp2_with fail
      go_meet
      exact ⟨bel.out, T1.out, T2.out⟩
    case hstt2x5 =>
      intro K hK
      go_simp
      (go_at_call 32; (with_reducible refine (H5.out _).mono ?_); rintro e vt2x19 ⟨rfl, hb⟩)
      go_wp2_with fail
      refine hK.out _ _ (by exact Bx.Blk.keep hHeld hb) (fun hNew => ?_)
      clear hHeld
      have hHeld := hNew
      clear hNew hK K
      replace bel := Lib.hid (Bx.then_below (Bx.bel_drewn bel.out) hb)
      replace T1 := Lib.hid (T1.out.drew.keep hb)
      replace T2 := Lib.hid (T2.out.drew.keep hb)
      clear hb
      refine wpAnyH_ready (rs := [2, 4]) (by kernel_rfl) (by simp) ?_
      refine AllReadyH.cons (o := ?ot2x20) ?hit2x20 ?hstt2x20 (AllReadyH.cons (o := ?ot2x21) ?hit2x21 ?hstt2x21 AllReadyH.nil)
      case hit2x20 => (simp only [List.getElem?_toArray, List.getElem?_cons_succ, List.getElem?_cons_zero]; rfl)
      case hit2x21 => (simp only [List.getElem?_toArray, List.getElem?_cons_succ, List.getElem?_cons_zero]; rfl)
      case hstt2x20 =>
        intro K hK
        rw [if_pos (by rfl)]
        refine ccr_wp rfl (k1 + 1) 4 (by omega) rfl tu1 T2.out.blk ?_
        refine hK.out _ _ hHeld (fun _ => ?_)
        clear hK K
        try simp only [Act.put, List.setIfInBounds_toArray, List.set_cons_zero, List.set_cons_succ]
        refine wpAnyH_ready (rs := [4]) (by kernel_rfl) (by simp) ?_
        refine AllReadyH.cons (o := ?ot2x23) ?hit2x23 ?hstt2x23 AllReadyH.nil
        case hit2x23 => (simp only [List.getElem?_toArray, List.getElem?_cons_succ, List.getElem?_cons_zero]; rfl)
        intro K hK
        go_simp
        (go_at_call 31; (with_reducible refine (HM5.out _).mono ?_); rintro e vt2x24 ⟨rfl, hb⟩)
        go_wp2_with fail
        refine hK.out _ _ (by exact Bx.Blk.keep hHeld hb) (fun hNew => ?_)
        clear hHeld
        have hHeld := hNew
        clear hNew hK K
        replace bel := Lib.hid (Bx.then_below bel.out hb)
        replace T1 := Lib.hid (T1.out.keep hb)
        replace T2 := Lib.hid (T2.out.keep hb)
        clear hb
        refine wpAnyH_ready (rs := [5]) (by kernel_rfl) (by simp) ?_
        refine AllReadyH.cons (o := ?ot2x25) ?hit2x25 ?hstt2x25 AllReadyH.nil
        case hit2x25 => (simp only [List.getElem?_toArray, List.getElem?_cons_succ, List.getElem?_cons_zero]; rfl)
        intro K hK
        go_simp
        (go_at_call 30; (with_reducible refine (HC4.out _).mono ?_); rintro e vt2x26 ⟨rfl, hb⟩)
        go_wp2_with fail
        refine hK.out _ _ (by exact Bx.Blk.keep hHeld hb) (fun hNew => ?_)
        clear hHeld
        have hHeld := hNew
        clear hNew hK K
        replace bel := Lib.hid (Bx.then_below bel.out hb)
        replace T1 := Lib.hid (T1.out.keep hb)
        replace T2 := Lib.hid (T2.out.keep hb)
        clear hb
        refine wpAnyH_take (i := 6) (oi := ?ot2x27) (v := ?vt2x27) ?hit2x27 (by kernel_rfl) (by kernel_rfl) (by kernel_rfl) (fun _ _ _ h => h) ?yt2x27 (by assumption) ?rt2x27
        case hit2x27 => (simp only [List.getElem?_toArray, List.getElem?_cons_succ, List.getElem?_cons_zero]; rfl)
        case yt2x27 => (refine Or.inl ⟨by rfl, ?_⟩; intro w' hSw; (try dsimp only at hSw); go_simp; (try with_reducible rfl))
        try simp only [Act.put, List.setIfInBounds_toArray, List.set_cons_zero, List.set_cons_succ]
        refine wpAnyH_take (i := 7) (oi := ?ot2x28) (v := ?vt2x28) ?hit2x28 (by kernel_rfl) (by kernel_rfl) (by kernel_rfl) (fun _ _ _ h => h) ?yt2x28 (by assumption) ?rt2x28
        case hit2x28 => (simp only [List.getElem?_toArray, List.getElem?_cons_succ, List.getElem?_cons_zero]; rfl)
        case yt2x28 => (refine Or.inl ⟨by rfl, ?_⟩; intro w' hSw; (try dsimp only at hSw); go_simp; (try with_reducible rfl))
        try simp only [Act.put, List.setIfInBounds_toArray, List.set_cons_zero, List.set_cons_succ]
        refine wpAnyH_take (i := 8) (oi := ?ot2x29) (v := ?vt2x29) ?hit2x29 (by kernel_rfl) (by kernel_rfl) (by kernel_rfl) (fun _ _ _ h => h) ?yt2x29 (by assumption) ?rt2x29
        case hit2x29 => (simp only [List.getElem?_toArray, List.getElem?_cons_succ, List.getElem?_cons_zero]; rfl)
        case yt2x29 => (refine Or.inl ⟨by rfl, ?_⟩; intro w' hSw; (try dsimp only at hSw); go_simp; (try with_reducible rfl))
        try simp only [Act.put, List.setIfInBounds_toArray, List.set_cons_zero, List.set_cons_succ]
        refine wpAnyH_take (i := 10) (oi := ?ot2x30) (v := ?vt2x30) ?hit2x30 (by kernel_rfl) (by kernel_rfl) (by kernel_rfl) (fun _ _ _ h => h) ?yt2x30 (by assumption) ?rt2x30
        case hit2x30 => (simp only [List.getElem?_toArray, List.getElem?_cons_succ, List.getElem?_cons_zero]; rfl)
        case yt2x30 => (refine Or.inl ⟨by rfl, ?_⟩; intro w' hSw; (try dsimp only at hSw); go_simp; (try with_reducible rfl))
        try simp only [Act.put, List.setIfInBounds_toArray, List.set_cons_zero, List.set_cons_succ]
        refine wpAnyH_ready (rs := [11]) (by kernel_rfl) (by simp) ?_
        refine AllReadyH.cons (o := ?ot2x31) ?hit2x31 ?hstt2x31 AllReadyH.nil
        case hit2x31 => (simp only [List.getElem?_toArray, List.getElem?_cons_succ, List.getElem?_cons_zero]; rfl)
        intro K hK
        rw [if_pos (by rfl)]
        refine cc_wp rfl (k1 + 1) 4 (by omega) rfl c4 rfl tu1 T2.out ?_
        refine hK.out _ _ (by exact Bx.Blk.apart_at _ _ (by omega) hHeld) (fun hNew => ?_)
        clear hHeld
        have hHeld := hNew
        clear hNew hK K
        try simp only [Act.put]
        replace bel := Lib.hid (Bx.bel_put_at (k := k1 + 1) (cdl c4) (14 + 4 * 31) (by omega) bel.out)
        replace T1 := Lib.hid (T1.out.apart_at (k' := k1 + 1) (cdl c4) (14 + 4 * 31) (by omega))
        replace T2 := Lib.hid ((Bx.Fre.put_at (cdl c4) (14 + 4 * 31) T2.out).of (m := tdl tu2) (tdl_upd tu1 4 (by omega) c4))
        generalize vt2x26.setCells (k1 + 1) (14 + 4 * 31) (cdl c4) = vt2x32 at *
        refine wpAnyH_done (by kernel_rfl) ?_ _
        refine NoPanic.normal ?_
        go_wp2_with fail
        go_meet
        exact ⟨bel.out, T1.out, T2.out⟩
      case hstt2x21 =>
        intro K hK
        go_simp
        (go_at_call 31; (with_reducible refine (HM5.out _).mono ?_); rintro e vt2x33 ⟨rfl, hb⟩)
        go_wp2_with fail
        refine hK.out _ _ (by exact Bx.Blk.keep hHeld hb) (fun hNew => ?_)
        clear hHeld
        have hHeld := hNew
        clear hNew hK K
        replace bel := Lib.hid (Bx.then_below bel.out hb)
        replace T1 := Lib.hid (T1.out.keep hb)
        replace T2 := Lib.hid (T2.out.keep hb)
        clear hb
        refine wpAnyH_ready (rs := [2]) (by kernel_rfl) (by simp) ?_
        refine AllReadyH.cons (o := ?ot2x34) ?hit2x34 ?hstt2x34 AllReadyH.nil
        case hit2x34 => (simp only [List.getElem?_toArray, List.getElem?_cons_succ, List.getElem?_cons_zero]; rfl)
        intro K hK
        rw [if_pos (by rfl)]
        refine ccr_wp rfl (k1 + 1) 4 (by omega) rfl tu1 T2.out.blk ?_
        refine hK.out _ _ hHeld (fun _ => ?_)
        clear hK K
        try simp only [Act.put, List.setIfInBounds_toArray, List.set_cons_zero, List.set_cons_succ]
        refine wpAnyH_ready (rs := [5]) (by kernel_rfl) (by simp) ?_
        refine AllReadyH.cons (o := ?ot2x36) ?hit2x36 ?hstt2x36 AllReadyH.nil
        case hit2x36 => (simp only [List.getElem?_toArray, List.getElem?_cons_succ, List.getElem?_cons_zero]; rfl)
        intro K hK
        go_simp
        (go_at_call 30; (with_reducible refine (HC4.out _).mono ?_); rintro e vt2x37 ⟨rfl, hb⟩)
        go_wp2_with fail
        refine hK.out _ _ (by exact Bx.Blk.keep hHeld hb) (fun hNew => ?_)
        clear hHeld
        have hHeld := hNew
        clear hNew hK K
        replace bel := Lib.hid (Bx.then_below bel.out hb)
        replace T1 := Lib.hid (T1.out.keep hb)
        replace T2 := Lib.hid (T2.out.keep hb)
        clear hb
        refine wpAnyH_take (i := 6) (oi := ?ot2x38) (v := ?vt2x38) ?hit2x38 (by kernel_rfl) (by kernel_rfl) (by kernel_rfl) (fun _ _ _ h => h) ?yt2x38 (by assumption) ?rt2x38
        case hit2x38 => (simp only [List.getElem?_toArray, List.getElem?_cons_succ, List.getElem?_cons_zero]; rfl)
        case yt2x38 => (refine Or.inl ⟨by rfl, ?_⟩; intro w' hSw; (try dsimp only at hSw); go_simp; (try with_reducible rfl))
        try simp only [Act.put, List.setIfInBounds_toArray, List.set_cons_zero, List.set_cons_succ]
        refine wpAnyH_take (i := 7) (oi := ?ot2x39) (v := ?vt2x39) ?hit2x39 (by kernel_rfl) (by kernel_rfl) (by kernel_rfl) (fun _ _ _ h => h) ?yt2x39 (by assumption) ?rt2x39
        case hit2x39 => (simp only [List.getElem?_toArray, List.getElem?_cons_succ, List.getElem?_cons_zero]; rfl)
        case yt2x39 => (refine Or.inl ⟨by rfl, ?_⟩; intro w' hSw; (try dsimp only at hSw); go_simp; (try with_reducible rfl))
        try simp only [Act.put, List.setIfInBounds_toArray, List.set_cons_zero, List.set_cons_succ]
        refine wpAnyH_take (i := 8) (oi := ?ot2x40) (v := ?vt2x40) ?hit2x40 (by kernel_rfl) (by kernel_rfl) (by kernel_rfl) (fun _ _ _ h => h) ?yt2x40 (by assumption) ?rt2x40
        case hit2x40 => (simp only [List.getElem?_toArray, List.getElem?_cons_succ, List.getElem?_cons_zero]; rfl)
        case yt2x40 => (refine Or.inl ⟨by rfl, ?_⟩; intro w' hSw; (try dsimp only at hSw); go_simp; (try with_reducible rfl))
        try simp only [Act.put, List.setIfInBounds_toArray, List.set_cons_zero, List.set_cons_succ]
        refine wpAnyH_take (i := 10) (oi := ?ot2x41) (v := ?vt2x41) ?hit2x41 (by kernel_rfl) (by kernel_rfl) (by kernel_rfl) (fun _ _ _ h => h) ?yt2x41 (by assumption) ?rt2x41
        case hit2x41 => (simp only [List.getElem?_toArray, List.getElem?_cons_succ, List.getElem?_cons_zero]; rfl)
        case yt2x41 => (refine Or.inl ⟨by rfl, ?_⟩; intro w' hSw; (try dsimp only at hSw); go_simp; (try with_reducible rfl))
        try simp only [Act.put, List.setIfInBounds_toArray, List.set_cons_zero, List.set_cons_succ]
        refine wpAnyH_ready (rs := [11]) (by kernel_rfl) (by simp) ?_
        refine AllReadyH.cons (o := ?ot2x42) ?hit2x42 ?hstt2x42 AllReadyH.nil
        case hit2x42 => (simp only [List.getElem?_toArray, List.getElem?_cons_succ, List.getElem?_cons_zero]; rfl)
        intro K hK
        rw [if_pos (by rfl)]
        refine cc_wp rfl (k1 + 1) 4 (by omega) rfl c4 rfl tu1 T2.out ?_
        refine hK.out _ _ (by exact Bx.Blk.apart_at _ _ (by omega) hHeld) (fun hNew => ?_)
        clear hHeld
        have hHeld := hNew
        clear hNew hK K
        try simp only [Act.put]
        replace bel := Lib.hid (Bx.bel_put_at (k := k1 + 1) (cdl c4) (14 + 4 * 31) (by omega) bel.out)
        replace T1 := Lib.hid (T1.out.apart_at (k' := k1 + 1) (cdl c4) (14 + 4 * 31) (by omega))
        replace T2 := Lib.hid ((Bx.Fre.put_at (cdl c4) (14 + 4 * 31) T2.out).of (m := tdl tu2) (tdl_upd tu1 4 (by omega) c4))
        generalize vt2x37.setCells (k1 + 1) (14 + 4 * 31) (cdl c4) = vt2x43 at *
        refine wpAnyH_done (by kernel_rfl) ?_ _
        refine NoPanic.normal ?_
        go_wp2_with fail
        go_meet
        exact ⟨bel.out, T1.out, T2.out⟩
  case rest =>
  clear T1 T2 bel
  obtain ⟨bel, T1, T2⟩ := hcut
  replace bel := Lib.hid bel
  replace T1 := Lib.hid T1
  replace T2 := Lib.hid T2
  go_wp2_with (first | ((with_reducible refine td_load ?_ ?_ (k1 + 1) ?_ tu2 ?_ ?_); (· rfl); (· rfl); (· rfl); (· exact T2.out.blk)) | ((with_reducible refine cs_load ?_ ?_ (k1 + 1) ?_ tu2 ?_ ?_); (· rfl); (· rfl); (· rfl); (· exact T2.out.blk)))
  refine (HE2.out _).mono ?_; rintro e w3 ⟨rfl, hb⟩
  replace T1 := Lib.hid (T1.out.keep hb)
  replace T2 := Lib.hid (T2.out.keep hb)
  replace bel := Lib.hid (Bx.then_below bel.out hb)
  clear hb
  have O2 := T2
  have O1 := T1
  replace T1 := Lib.hid (T1.out.apart_at (k' := k1 + 1) (tdl tu7) 0 (by omega))
  replace bel := Lib.hid (Bx.bel_put_at (k := k1 + 1) (tdl tu7) 0 (by omega) bel.out)
  replace T2 := Lib.hid (T2.out.full (m := (tdl tu7)) (by rw [tdl_len, tdl_len]))
  go_upto_region 6 with (first | ((with_reducible refine td_store ?_ ?_ (k1 + 1) tu7 ?_ ?_ (tdl tu2) ?_ ?_ ?_); (· rfl); (· rfl); (· rfl); (· rfl); (· exact tdl_len _); (· exact O2.out.own)))
  clear O2 O1
  generalize (w3.setCells (k1 + 1) 0 (tdl tu7)) = W5 at *
  go_wp2_with (first | ((with_reducible refine td_load ?_ ?_ (k1 + 1) ?_ tu7 ?_ ?_); (· rfl); (· rfl); (· rfl); (· exact T2.out.blk)) | ((with_reducible refine cs_load ?_ ?_ (k1 + 1) ?_ tu7 ?_ ?_); (· rfl); (· rfl); (· rfl); (· exact T2.out.blk)))
  refine (HR.out _).mono ?_; rintro e w4 ⟨rfl, hb⟩
  replace T1 := Lib.hid (T1.out.keep hb)
  replace T2 := Lib.hid (T2.out.keep hb)
  replace bel := Lib.hid (Bx.then_below bel.out hb)
  clear hb
  have h3 : k1 + 1 < w4.heap.size := T2.out.2.1
  obtain ⟨rv, hrv⟩ : ∃ rv, rv = (rootR tu7).v := ⟨_, rfl⟩
  obtain ⟨rt, hrt⟩ : ∃ rt, rt = (rootR tu7).t := ⟨_, rfl⟩
  skip
  replace T1 := Lib.hid (T1.out.more (vo (rootR tu7).v))
  replace T2 := Lib.hid (T2.out.more (vo (rootR tu7).v))
  have V3 : Hid (Bx.Fre (w4.alloc (vo (rootR tu7).v)) w4.heap.size (enc (rootR tu7).v)) := Lib.hid (Bx.Fre.new w4 (enc (rootR tu7).v) 26)
  replace bel := Lib.hid (Bx.bel_box bel.out (vo (rootR tu7).v))
  replace T1 := Lib.hid (T1.out.more (tmo (rootR tu7).t))
  replace T2 := Lib.hid (T2.out.more (tmo (rootR tu7).t))
  replace V3 := Lib.hid (V3.out.more (tmo (rootR tu7).t))
  have M4 : Hid (Bx.Fre ((w4.alloc (vo (rootR tu7).v)).alloc (tmo (rootR tu7).t)) (w4.heap.size + 1) (tenc (rootR tu7).t)) := Lib.hid (Bx.Fre.new_at (W := (w4.alloc (vo (rootR tu7).v))) (k := w4.heap.size + 1) (tenc (rootR tu7).t) 24 (by simp))
  replace bel := Lib.hid (Bx.bel_box bel.out (tmo (rootR tu7).t))
  go_wp2_with (first | ((with_reducible refine td_load ?_ ?_ (k1 + 1) ?_ tu7 ?_ ?_); (· rfl); (· rfl); (· rfl); (· exact T2.out.blk)) | ((with_reducible refine cs_load ?_ ?_ (k1 + 1) ?_ tu7 ?_ ?_); (· rfl); (· rfl); (· rfl); (· exact T2.out.blk)))
  obtain ⟨k3, hk3⟩ : ∃ k, k = w4.heap.size := ⟨_, rfl⟩
  rw [← hk3] at V3 M4 h3 ⊢
  clear hk3
  refine (HL.out _).mono ?_; rintro e w5 ⟨rfl, hb⟩
  replace T1 := Lib.hid (T1.out.keep hb)
  replace T2 := Lib.hid (T2.out.keep hb)
  replace V3 := Lib.hid (V3.out.keep hb)
  replace M4 := Lib.hid (M4.out.keep hb)
  replace bel := Lib.hid (Bx.then_below bel.out hb)
  clear hb
  have h6 : k3 + 1 < w5.heap.size := M4.out.2.1
  replace T1 := Lib.hid (T1.out.more (i8o (roleN tu7 (rootR tu7))))
  replace T2 := Lib.hid (T2.out.more (i8o (roleN tu7 (rootR tu7))))
  replace V3 := Lib.hid (V3.out.more (i8o (roleN tu7 (rootR tu7))))
  replace M4 := Lib.hid (M4.out.more (i8o (roleN tu7 (rootR tu7))))
  have G6 : Hid (Bx.Fre (w5.alloc (i8o (roleN tu7 (rootR tu7)))) w5.heap.size (i8 (roleN tu7 (rootR tu7)))) := Lib.hid (Bx.Fre.new w5 (i8 (roleN tu7 (rootR tu7))) 34)
  replace bel := Lib.hid (Bx.bel_box bel.out (i8o (roleN tu7 (rootR tu7))))
  go_upto_region 8 with (first | ((with_reducible refine i8_fresh ?_ ?_ (w5.heap.size) (roleN tu7 (rootR tu7)) ?_ ?_ w5 (i8 (fun _ => 0)) ?_ ?_ ?_ ?_); (· rfl); (· rfl); (· rfl); (· rfl); (· rfl); (· rfl); (· first | rfl | (simp; done))))
  obtain ⟨k6, hk6⟩ : ∃ k, k = w5.heap.size := ⟨_, rfl⟩
  rw [← hk6] at G6 h6 ⊢
  generalize (w5.alloc (i8o (roleN tu7 (rootR tu7)))) = W6 at *
  clear hk6
  have a5 : W6.cell? ⟨k1, 5, none⟩ = some (.int .u64 e7.root.r) := T1.out.at 5 rfl
  have a6 : W6.cell? ⟨k1, 6, none⟩ = some (.int .u64 e7.root.c) := T1.out.at 6 rfl
  have a7 : W6.cell? ⟨k1, 7, none⟩ = some (.int .u64 e7.root.b) := T1.out.at 7 rfl
  have a8 : W6.cell? ⟨k1, 8, none⟩ = some (.int .i64 e7.root.p) := T1.out.at 8 rfl
  have a13 : W6.cell? ⟨k1, 13, none⟩ = some (.int .i64 (-1)) := by have h := T1.out.at 13 (v := .int .i64 e7.port) rfl; rwa [he2.out] at h
  have a27 : W6.cell? ⟨k1, 27, none⟩ = some (.int .i64 3) := by have h := cord_cell T1.out.blk 0 13 (by omega) (by omega) (v := .int .i64 (e7.cs 0).role) rfl; rw [he3.out] at h; exact h
  have a36 : W6.cell? ⟨k1, 36, none⟩ = some (.bool true) := by have h := cord_cell T1.out.blk 0 22 (by omega) (by omega) (v := .bool (e7.cs 0).tel) rfl; rw [he4.out] at h; exact h
  have b13 : W6.cell? ⟨k1 + 1, 13, none⟩ = some (.int .i64 2) := by have h := T2.out.at 13 (v := .int .i64 tu7.port) rfl; rwa [hu0.out] at h
  have b19 : W6.cell? ⟨k1 + 1, 19, none⟩ = some (.int .u64 5) := by have h := cord_cell T2.out.blk 0 5 (by omega) (by omega) (v := .int .u64 (tu7.cs 0).v.r) rfl; rw [hu6.out] at h; exact h
  have v0 : W6.cell? ⟨k3, 0, none⟩ = some (.int .u64 5) := by have h := V3.out.at 0 (v := .int .u64 (rootR tu7).v.r) rfl; rw [hu2.out] at h; exact h
  have v1 : W6.cell? ⟨k3, 1, none⟩ = some (.int .u64 10) := by have h := V3.out.at 1 (v := .int .u64 (rootR tu7).v.c) rfl; rw [hu3.out] at h; exact h
  have g2 : W6.cell? ⟨k6, 2, none⟩ = some (.int .i64 2) := by have h := G6.out.at 2 (i8_get (roleN tu7 (rootR tu7)) 2 (by omega)); rw [hu4.out] at h; exact h
  have g4 : W6.cell? ⟨k6, 4, none⟩ = some (.int .i64 1) := by have h := G6.out.at 4 (i8_get (roleN tu7 (rootR tu7)) 4 (by omega)); rw [hu5.out] at h; exact h
  simp only [List.append_eq, List.cons_append, List.nil_append]
  refine wp_region_noPanic ?_
  refine wp_region_held_drew (S := fun w' => Bx.Blk w' k1 (tdl e7) ∧ Bx.Blk w' (k1 + 1) (tdl tu7) ∧ w'.cell? ⟨k1, 5, none⟩ = some (.int .u64 e7.root.r) ∧ w'.cell? ⟨k1, 6, none⟩ = some (.int .u64 e7.root.c) ∧ w'.cell? ⟨k1, 7, none⟩ = some (.int .u64 e7.root.b) ∧ w'.cell? ⟨k1, 8, none⟩ = some (.int .i64 e7.root.p) ∧ w'.cell? ⟨k1, 13, none⟩ = some (.int .i64 (-1)) ∧ w'.cell? ⟨k1, 27, none⟩ = some (.int .i64 3) ∧ w'.cell? ⟨k1, 36, none⟩ = some (.bool true) ∧ w'.cell? ⟨k1 + 1, 13, none⟩ = some (.int .i64 2) ∧ w'.cell? ⟨k1 + 1, 19, none⟩ = some (.int .u64 5) ∧ w'.cell? ⟨k3, 0, none⟩ = some (.int .u64 5) ∧ w'.cell? ⟨k3, 1, none⟩ = some (.int .u64 10) ∧ w'.cell? ⟨k6, 2, none⟩ = some (.int .i64 2) ∧ w'.cell? ⟨k6, 4, none⟩ = some (.int .i64 1)) (by kernel_rfl) (by exact ⟨T1.out.blk, T2.out.blk, a5, a6, a7, a8, a13, a27, a36, b13, b19, v0, v1, g2, g4⟩) (fun hHeld => ?_)
  replace bel := Lib.hid (Bx.bel_drewn bel.out)
  refine wpAnyH_take (i := 0) (oi := ?oz3x0) (v := ?vz3x0) ?hiz3x0 (by kernel_rfl) (by kernel_rfl) (by kernel_rfl) (fun _ _ _ h => h) ?yz3x0 (by assumption) ?rz3x0
  case hiz3x0 => (simp only [List.getElem?_toArray, List.getElem?_cons_zero]; rfl)
  case yz3x0 => (refine Or.inl ⟨by rfl, ?_⟩; intro w' hSw; (try dsimp only at hSw); go_simp; (try with_reducible rfl))
  try simp only [Act.put, List.setIfInBounds_toArray, List.set_cons_zero, List.set_cons_succ]
  refine wpAnyH_take (i := 1) (oi := ?oz3x1) (v := ?vz3x1) ?hiz3x1 (by kernel_rfl) (by kernel_rfl) (by kernel_rfl) (fun _ _ _ h => h) ?yz3x1 (by assumption) ?rz3x1
  case hiz3x1 => (simp only [List.getElem?_toArray, List.getElem?_cons_succ, List.getElem?_cons_zero]; rfl)
  case yz3x1 => (refine Or.inl ⟨by rfl, ?_⟩; intro w' hSw; (try dsimp only at hSw); go_simp; (try with_reducible rfl))
  try simp only [Act.put, List.setIfInBounds_toArray, List.set_cons_zero, List.set_cons_succ]
  refine wpAnyH_ready (rs := [2]) (by kernel_rfl) (by simp) ?_
  refine AllReadyH.cons (o := ?oz3x2) ?hiz3x2 ?hstz3x2 AllReadyH.nil
  case hiz3x2 => (simp only [List.getElem?_toArray, List.getElem?_cons_succ, List.getElem?_cons_zero]; rfl)
  intro K hK
  go_simp
  (go_at_call 16; (with_reducible refine (HO.out _).mono ?_); rintro e w11 ⟨rfl, hb11⟩)
  go_wp2_with fail
  refine hK.out _ _ ⟨Bx.Blk.keep hHeld.1 hb11, Bx.Blk.keep hHeld.2.1 hb11, Bx.keep_cell hb11 hHeld.2.2.1, Bx.keep_cell hb11 hHeld.2.2.2.1, Bx.keep_cell hb11 hHeld.2.2.2.2.1, Bx.keep_cell hb11 hHeld.2.2.2.2.2.1, Bx.keep_cell hb11 hHeld.2.2.2.2.2.2.1, Bx.keep_cell hb11 hHeld.2.2.2.2.2.2.2.1, Bx.keep_cell hb11 hHeld.2.2.2.2.2.2.2.2.1, Bx.keep_cell hb11 hHeld.2.2.2.2.2.2.2.2.2.1, Bx.keep_cell hb11 hHeld.2.2.2.2.2.2.2.2.2.2.1, Bx.keep_cell hb11 hHeld.2.2.2.2.2.2.2.2.2.2.2.1, Bx.keep_cell hb11 hHeld.2.2.2.2.2.2.2.2.2.2.2.2.1, Bx.keep_cell hb11 hHeld.2.2.2.2.2.2.2.2.2.2.2.2.2.1, Bx.keep_cell hb11 hHeld.2.2.2.2.2.2.2.2.2.2.2.2.2.2⟩ (fun hNew => ?_)
  clear hHeld
  have hHeld := hNew
  clear hNew hK K
  replace bel := Lib.hid (Bx.then_below bel.out hb11)
  clear hb11
  refine wpAnyH_take (i := 3) (oi := ?oz3x3) (v := ?vz3x3) ?hiz3x3 (by kernel_rfl) (by kernel_rfl) (by kernel_rfl) (fun _ _ _ h => h) ?yz3x3 (by assumption) ?rz3x3
  case hiz3x3 => (simp only [List.getElem?_toArray, List.getElem?_cons_succ, List.getElem?_cons_zero]; rfl)
  case yz3x3 => (refine Or.inl ⟨by rfl, ?_⟩; intro w' hSw; (try dsimp only at hSw); go_simp; (try with_reducible rfl))
  try simp only [Act.put, List.setIfInBounds_toArray, List.set_cons_zero, List.set_cons_succ]
  refine wpAnyH_take (i := 4) (oi := ?oz3x4) (v := ?vz3x4) ?hiz3x4 (by kernel_rfl) (by kernel_rfl) (by kernel_rfl) (fun _ _ _ h => h) ?yz3x4 (by assumption) ?rz3x4
  case hiz3x4 => (simp only [List.getElem?_toArray, List.getElem?_cons_succ, List.getElem?_cons_zero]; rfl)
  case yz3x4 => (refine Or.inl ⟨by rfl, ?_⟩; intro w' hSw; (try dsimp only at hSw); go_simp; (try with_reducible rfl))
  try simp only [Act.put, List.setIfInBounds_toArray, List.set_cons_zero, List.set_cons_succ]
  refine wpAnyH_take (i := 5) (oi := ?oz3x5) (v := ?vz3x5) ?hiz3x5 (by kernel_rfl) (by kernel_rfl) (by kernel_rfl) (fun _ _ _ h => h) ?yz3x5 (by assumption) ?rz3x5
  case hiz3x5 => (simp only [List.getElem?_toArray, List.getElem?_cons_succ, List.getElem?_cons_zero]; rfl)
  case yz3x5 => (refine Or.inl ⟨by rfl, ?_⟩; intro w' hSw; (try dsimp only at hSw); go_simp; (try with_reducible rfl))
  try simp only [Act.put, List.setIfInBounds_toArray, List.set_cons_zero, List.set_cons_succ]
  refine wpAnyH_take (i := 6) (oi := ?oz3x6) (v := ?vz3x6) ?hiz3x6 (by kernel_rfl) (by kernel_rfl) (by kernel_rfl) (fun _ _ _ h => h) ?yz3x6 (by assumption) ?rz3x6
  case hiz3x6 => (simp only [List.getElem?_toArray, List.getElem?_cons_succ, List.getElem?_cons_zero]; rfl)
  case yz3x6 => (refine Or.inl ⟨by rfl, ?_⟩; intro w' hSw; (try dsimp only at hSw); go_simp; (try with_reducible rfl))
  try simp only [Act.put, List.setIfInBounds_toArray, List.set_cons_zero, List.set_cons_succ]
  refine wpAnyH_take (i := 7) (oi := ?oz3x7) (v := ?vz3x7) ?hiz3x7 (by kernel_rfl) (by kernel_rfl) (by kernel_rfl) (fun _ _ _ h => h) ?yz3x7 (by assumption) ?rz3x7
  case hiz3x7 => (simp only [List.getElem?_toArray, List.getElem?_cons_succ, List.getElem?_cons_zero]; rfl)
  case yz3x7 => (refine Or.inl ⟨by rfl, ?_⟩; intro w' hSw; (try dsimp only at hSw); go_simp; (try with_reducible rfl))
  try simp only [Act.put, List.setIfInBounds_toArray, List.set_cons_zero, List.set_cons_succ]
  refine wpAnyH_take (i := 8) (oi := ?oz3x8) (v := ?vz3x8) ?hiz3x8 (by kernel_rfl) (by kernel_rfl) (by kernel_rfl) (fun _ _ _ h => h) ?yz3x8 (by assumption) ?rz3x8
  case hiz3x8 => (simp only [List.getElem?_toArray, List.getElem?_cons_succ, List.getElem?_cons_zero]; rfl)
  case yz3x8 => (refine Or.inl ⟨by rfl, ?_⟩; intro w' hSw; (try dsimp only at hSw); go_simp; (try with_reducible rfl))
  try simp only [Act.put, List.setIfInBounds_toArray, List.set_cons_zero, List.set_cons_succ]
  refine wpAnyH_take (i := 9) (oi := ?oz3x9) (v := ?vz3x9) ?hiz3x9 (by kernel_rfl) (by kernel_rfl) (by kernel_rfl) (fun _ _ _ h => h) ?yz3x9 (by assumption) ?rz3x9
  case hiz3x9 => (simp only [List.getElem?_toArray, List.getElem?_cons_succ, List.getElem?_cons_zero]; rfl)
  case yz3x9 => (refine Or.inl ⟨by rfl, ?_⟩; intro w' hSw; (try dsimp only at hSw); go_simp; (try with_reducible rfl))
  try simp only [Act.put, List.setIfInBounds_toArray, List.set_cons_zero, List.set_cons_succ]
  refine wpAnyH_take (i := 10) (oi := ?oz3x10) (v := ?vz3x10) ?hiz3x10 (by kernel_rfl) (by kernel_rfl) (by kernel_rfl) (fun _ _ _ h => h) ?yz3x10 (by assumption) ?rz3x10
  case hiz3x10 => (simp only [List.getElem?_toArray, List.getElem?_cons_succ, List.getElem?_cons_zero]; rfl)
  case yz3x10 => (refine Or.inl ⟨by rfl, ?_⟩; intro w' hSw; (try dsimp only at hSw); go_simp; (try with_reducible rfl))
  try simp only [Act.put, List.setIfInBounds_toArray, List.set_cons_zero, List.set_cons_succ]
  refine wpAnyH_take (i := 11) (oi := ?oz3x11) (v := ?vz3x11) ?hiz3x11 (by kernel_rfl) (by kernel_rfl) (by kernel_rfl) (fun _ _ _ h => h) ?yz3x11 (by assumption) ?rz3x11
  case hiz3x11 => (simp only [List.getElem?_toArray, List.getElem?_cons_succ, List.getElem?_cons_zero]; rfl)
  case yz3x11 => (refine Or.inl ⟨by rfl, ?_⟩; intro w' hSw; (try dsimp only at hSw); go_simp; (try with_reducible rfl))
  try simp only [Act.put, List.setIfInBounds_toArray, List.set_cons_zero, List.set_cons_succ]
  refine wpAnyH_take (i := 12) (oi := ?oz3x12) (v := ?vz3x12) ?hiz3x12 (by kernel_rfl) (by kernel_rfl) (by kernel_rfl) (fun _ _ _ h => h) ?yz3x12 (by assumption) ?rz3x12
  case hiz3x12 => (simp only [List.getElem?_toArray, List.getElem?_cons_succ, List.getElem?_cons_zero]; rfl)
  case yz3x12 => (refine Or.inl ⟨by rfl, ?_⟩; intro w' hSw; (try dsimp only at hSw); go_simp; (try with_reducible rfl))
  try simp only [Act.put, List.setIfInBounds_toArray, List.set_cons_zero, List.set_cons_succ]
  refine wpAnyH_take (i := 13) (oi := ?oz3x13) (v := ?vz3x13) ?hiz3x13 (by kernel_rfl) (by kernel_rfl) (by kernel_rfl) (fun _ _ _ h => h) ?yz3x13 (by assumption) ?rz3x13
  case hiz3x13 => (simp only [List.getElem?_toArray, List.getElem?_cons_succ, List.getElem?_cons_zero]; rfl)
  case yz3x13 => (refine Or.inl ⟨by rfl, ?_⟩; intro w' hSw; (try dsimp only at hSw); go_simp; (try with_reducible rfl))
  try simp only [Act.put, List.setIfInBounds_toArray, List.set_cons_zero, List.set_cons_succ]
  refine wpAnyH_take (i := 14) (oi := ?oz3x14) (v := ?vz3x14) ?hiz3x14 (by kernel_rfl) (by kernel_rfl) (by kernel_rfl) (fun _ _ _ h => h) ?yz3x14 (by assumption) ?rz3x14
  case hiz3x14 => (simp only [List.getElem?_toArray, List.getElem?_cons_succ, List.getElem?_cons_zero]; rfl)
  case yz3x14 => (refine Or.inl ⟨by rfl, ?_⟩; intro w' hSw; (try dsimp only at hSw); go_simp; (try with_reducible rfl))
  try simp only [Act.put, List.setIfInBounds_toArray, List.set_cons_zero, List.set_cons_succ]
  refine wpAnyH_take (i := 15) (oi := ?oz3x15) (v := ?vz3x15) ?hiz3x15 (by kernel_rfl) (by kernel_rfl) (by kernel_rfl) (fun _ _ _ h => h) ?yz3x15 (by assumption) ?rz3x15
  case hiz3x15 => (simp only [List.getElem?_toArray, List.getElem?_cons_succ, List.getElem?_cons_zero]; rfl)
  case yz3x15 => (refine Or.inl ⟨by rfl, ?_⟩; intro w' hSw; (try dsimp only at hSw); go_simp; (try with_reducible rfl))
  try simp only [Act.put, List.setIfInBounds_toArray, List.set_cons_zero, List.set_cons_succ]
  refine wpAnyH_take (i := 16) (oi := ?oz3x16) (v := ?vz3x16) ?hiz3x16 (by kernel_rfl) (by kernel_rfl) (by kernel_rfl) (fun _ _ _ h => h) ?yz3x16 (by assumption) ?rz3x16
  case hiz3x16 => (simp only [List.getElem?_toArray, List.getElem?_cons_succ, List.getElem?_cons_zero]; rfl)
  case yz3x16 => (refine Or.inl ⟨by rfl, ?_⟩; intro w' hSw; (try dsimp only at hSw); go_simp; (try with_reducible rfl))
  try simp only [Act.put, List.setIfInBounds_toArray, List.set_cons_zero, List.set_cons_succ]
  refine wpAnyH_take (i := 17) (oi := ?oz3x17) (v := ?vz3x17) ?hiz3x17 (by kernel_rfl) (by kernel_rfl) (by kernel_rfl) (fun _ _ _ h => h) ?yz3x17 (by assumption) ?rz3x17
  case hiz3x17 => (simp only [List.getElem?_toArray, List.getElem?_cons_succ, List.getElem?_cons_zero]; rfl)
  case yz3x17 => (refine Or.inl ⟨by rfl, ?_⟩; intro w' hSw; (try dsimp only at hSw); go_simp; (try with_reducible rfl))
  try simp only [Act.put, List.setIfInBounds_toArray, List.set_cons_zero, List.set_cons_succ]
  refine wpAnyH_take (i := 18) (oi := ?oz3x18) (v := ?vz3x18) ?hiz3x18 (by kernel_rfl) (by kernel_rfl) (by kernel_rfl) (fun _ _ _ h => h) ?yz3x18 (by assumption) ?rz3x18
  case hiz3x18 => (simp only [List.getElem?_toArray, List.getElem?_cons_succ, List.getElem?_cons_zero]; rfl)
  case yz3x18 => (refine Or.inl ⟨by rfl, ?_⟩; intro w' hSw; (try dsimp only at hSw); go_simp; (try with_reducible rfl))
  try simp only [Act.put, List.setIfInBounds_toArray, List.set_cons_zero, List.set_cons_succ]
  refine wpAnyH_take (i := 19) (oi := ?oz3x19) (v := ?vz3x19) ?hiz3x19 (by kernel_rfl) (by kernel_rfl) (by kernel_rfl) (fun _ _ _ h => h) ?yz3x19 (by assumption) ?rz3x19
  case hiz3x19 => (simp only [List.getElem?_toArray, List.getElem?_cons_succ, List.getElem?_cons_zero]; rfl)
  case yz3x19 => (refine Or.inl ⟨by rfl, ?_⟩; intro w' hSw; (try dsimp only at hSw); go_simp; (try with_reducible rfl))
  try simp only [Act.put, List.setIfInBounds_toArray, List.set_cons_zero, List.set_cons_succ]
  refine wpAnyH_take (i := 20) (oi := ?oz3x20) (v := ?vz3x20) ?hiz3x20 (by kernel_rfl) (by kernel_rfl) (by kernel_rfl) (fun _ _ _ h => h) ?yz3x20 (by assumption) ?rz3x20
  case hiz3x20 => (simp only [List.getElem?_toArray, List.getElem?_cons_succ, List.getElem?_cons_zero]; rfl)
  case yz3x20 => (refine Or.inl ⟨by rfl, ?_⟩; intro w' hSw; (try dsimp only at hSw); go_simp; (try with_reducible rfl))
  try simp only [Act.put, List.setIfInBounds_toArray, List.set_cons_zero, List.set_cons_succ]
  refine wpAnyH_take (i := 21) (oi := ?oz3x21) (v := ?vz3x21) ?hiz3x21 (by kernel_rfl) (by kernel_rfl) (by kernel_rfl) (fun _ _ _ h => h) ?yz3x21 (by assumption) ?rz3x21
  case hiz3x21 => (simp only [List.getElem?_toArray, List.getElem?_cons_succ, List.getElem?_cons_zero]; rfl)
  case yz3x21 => (refine Or.inl ⟨by rfl, ?_⟩; intro w' hSw; (try dsimp only at hSw); go_simp; (try with_reducible rfl))
  try simp only [Act.put, List.setIfInBounds_toArray, List.set_cons_zero, List.set_cons_succ]
  refine wpAnyH_take (i := 22) (oi := ?oz3x22) (v := ?vz3x22) ?hiz3x22 (by kernel_rfl) (by kernel_rfl) (by kernel_rfl) (fun _ _ _ h => h) ?yz3x22 (by assumption) ?rz3x22
  case hiz3x22 => (simp only [List.getElem?_toArray, List.getElem?_cons_succ, List.getElem?_cons_zero]; rfl)
  case yz3x22 => (refine Or.inl ⟨by rfl, ?_⟩; intro w' hSw; (try dsimp only at hSw); go_simp; (try with_reducible rfl))
  try simp only [Act.put, List.setIfInBounds_toArray, List.set_cons_zero, List.set_cons_succ]
  refine wpAnyH_take (i := 23) (oi := ?oz3x23) (v := tdv e7) ?hiz3x23 (by kernel_rfl) (by kernel_rfl) (by kernel_rfl) (fun _ _ _ h => h) ?yz3x23 (by assumption) ?rz3x23
  case hiz3x23 => (simp only [List.getElem?_toArray, List.getElem?_cons_succ, List.getElem?_cons_zero]; rfl)
  case yz3x23 => (refine td_yields rfl rfl (k1) rfl e7 ?_; intro w' hS; exact hS.1)
  try simp only [Act.put, List.setIfInBounds_toArray, List.set_cons_zero, List.set_cons_succ]
  refine wpAnyH_ready (rs := [24]) (by kernel_rfl) (by simp) ?_
  refine AllReadyH.cons (o := ?oz3x24) ?hiz3x24 ?hstz3x24 AllReadyH.nil
  case hiz3x24 => (simp only [List.getElem?_toArray, List.getElem?_cons_succ, List.getElem?_cons_zero]; rfl)
  intro K hK
  go_simp
  (go_at_call 12; (with_reducible refine (HA1.out _).mono ?_); rintro e w12 ⟨rfl, hb12⟩)
  go_wp2_with fail
  refine hK.out _ _ ⟨Bx.Blk.keep hHeld.1 hb12, Bx.Blk.keep hHeld.2.1 hb12, Bx.keep_cell hb12 hHeld.2.2.1, Bx.keep_cell hb12 hHeld.2.2.2.1, Bx.keep_cell hb12 hHeld.2.2.2.2.1, Bx.keep_cell hb12 hHeld.2.2.2.2.2.1, Bx.keep_cell hb12 hHeld.2.2.2.2.2.2.1, Bx.keep_cell hb12 hHeld.2.2.2.2.2.2.2.1, Bx.keep_cell hb12 hHeld.2.2.2.2.2.2.2.2.1, Bx.keep_cell hb12 hHeld.2.2.2.2.2.2.2.2.2.1, Bx.keep_cell hb12 hHeld.2.2.2.2.2.2.2.2.2.2.1, Bx.keep_cell hb12 hHeld.2.2.2.2.2.2.2.2.2.2.2.1, Bx.keep_cell hb12 hHeld.2.2.2.2.2.2.2.2.2.2.2.2.1, Bx.keep_cell hb12 hHeld.2.2.2.2.2.2.2.2.2.2.2.2.2.1, Bx.keep_cell hb12 hHeld.2.2.2.2.2.2.2.2.2.2.2.2.2.2⟩ (fun hNew => ?_)
  clear hHeld
  have hHeld := hNew
  clear hNew hK K
  replace bel := Lib.hid (Bx.then_below bel.out hb12)
  clear hb12
  refine wpAnyH_take (i := 25) (oi := ?oz3x25) (v := ?vz3x25) ?hiz3x25 (by kernel_rfl) (by kernel_rfl) (by kernel_rfl) (fun _ _ _ h => h) ?yz3x25 (by assumption) ?rz3x25
  case hiz3x25 => (simp only [List.getElem?_toArray, List.getElem?_cons_succ, List.getElem?_cons_zero]; rfl)
  case yz3x25 => (refine Or.inl ⟨by rfl, ?_⟩; intro w' hSw; (try dsimp only at hSw); go_simp; (try with_reducible rfl))
  try simp only [Act.put, List.setIfInBounds_toArray, List.set_cons_zero, List.set_cons_succ]
  refine wpAnyH_take (i := 26) (oi := ?oz3x26) (v := ?vz3x26) ?hiz3x26 (by kernel_rfl) (by kernel_rfl) (by kernel_rfl) (fun _ _ _ h => h) ?yz3x26 (by assumption) ?rz3x26
  case hiz3x26 => (simp only [List.getElem?_toArray, List.getElem?_cons_succ, List.getElem?_cons_zero]; rfl)
  case yz3x26 => (refine Or.inl ⟨by rfl, ?_⟩; intro w' hSw; (try dsimp only at hSw); go_simp; (try with_reducible rfl))
  try simp only [Act.put, List.setIfInBounds_toArray, List.set_cons_zero, List.set_cons_succ]
  refine wpAnyH_take (i := 27) (oi := ?oz3x27) (v := ?vz3x27) ?hiz3x27 (by kernel_rfl) (by kernel_rfl) (by kernel_rfl) (fun _ _ _ h => h) ?yz3x27 (by assumption) ?rz3x27
  case hiz3x27 => (simp only [List.getElem?_toArray, List.getElem?_cons_succ, List.getElem?_cons_zero]; rfl)
  case yz3x27 => (refine Or.inl ⟨by rfl, ?_⟩; intro w' hSw; (try dsimp only at hSw); go_simp; (try with_reducible rfl))
  try simp only [Act.put, List.setIfInBounds_toArray, List.set_cons_zero, List.set_cons_succ]
  refine wpAnyH_take (i := 28) (oi := ?oz3x28) (v := ?vz3x28) ?hiz3x28 (by kernel_rfl) (by kernel_rfl) (by kernel_rfl) (fun _ _ _ h => h) ?yz3x28 (by assumption) ?rz3x28
  case hiz3x28 => (simp only [List.getElem?_toArray, List.getElem?_cons_succ, List.getElem?_cons_zero]; rfl)
  case yz3x28 => (refine Or.inl ⟨by rfl, ?_⟩; intro w' hSw; (try dsimp only at hSw); go_simp; (try with_reducible rfl))
  try simp only [Act.put, List.setIfInBounds_toArray, List.set_cons_zero, List.set_cons_succ]
  refine wpAnyH_take (i := 29) (oi := ?oz3x29) (v := ?vz3x29) ?hiz3x29 (by kernel_rfl) (by kernel_rfl) (by kernel_rfl) (fun _ _ _ h => h) ?yz3x29 (by assumption) ?rz3x29
  case hiz3x29 => (simp only [List.getElem?_toArray, List.getElem?_cons_succ, List.getElem?_cons_zero]; rfl)
  case yz3x29 => (refine Or.inl ⟨by rfl, ?_⟩; intro w' hSw; (try dsimp only at hSw); go_simp; (try with_reducible rfl))
  try simp only [Act.put, List.setIfInBounds_toArray, List.set_cons_zero, List.set_cons_succ]
  refine wpAnyH_take (i := 30) (oi := ?oz3x30) (v := ?vz3x30) ?hiz3x30 (by kernel_rfl) (by kernel_rfl) (by kernel_rfl) (fun _ _ _ h => h) ?yz3x30 (by assumption) ?rz3x30
  case hiz3x30 => (simp only [List.getElem?_toArray, List.getElem?_cons_succ, List.getElem?_cons_zero]; rfl)
  case yz3x30 => (refine Or.inl ⟨by rfl, ?_⟩; intro w' hSw; (try dsimp only at hSw); go_simp; (try with_reducible rfl))
  try simp only [Act.put, List.setIfInBounds_toArray, List.set_cons_zero, List.set_cons_succ]
  refine wpAnyH_take (i := 31) (oi := ?oz3x31) (v := ?vz3x31) ?hiz3x31 (by kernel_rfl) (by kernel_rfl) (by kernel_rfl) (fun _ _ _ h => h) ?yz3x31 (by assumption) ?rz3x31
  case hiz3x31 => (simp only [List.getElem?_toArray, List.getElem?_cons_succ, List.getElem?_cons_zero]; rfl)
  case yz3x31 => (refine Or.inl ⟨by rfl, ?_⟩; intro w' hSw; (try dsimp only at hSw); go_simp; (try with_reducible rfl))
  try simp only [Act.put, List.setIfInBounds_toArray, List.set_cons_zero, List.set_cons_succ]
  refine wpAnyH_take (i := 32) (oi := ?oz3x32) (v := ?vz3x32) ?hiz3x32 (by kernel_rfl) (by kernel_rfl) (by kernel_rfl) (fun _ _ _ h => h) ?yz3x32 (by assumption) ?rz3x32
  case hiz3x32 => (simp only [List.getElem?_toArray, List.getElem?_cons_succ, List.getElem?_cons_zero]; rfl)
  case yz3x32 => (refine Or.inl ⟨by rfl, ?_⟩; intro w' hSw; (try dsimp only at hSw); go_simp; (try with_reducible rfl))
  try simp only [Act.put, List.setIfInBounds_toArray, List.set_cons_zero, List.set_cons_succ]
  refine wpAnyH_take (i := 33) (oi := ?oz3x33) (v := ?vz3x33) ?hiz3x33 (by kernel_rfl) (by kernel_rfl) (by kernel_rfl) (fun _ _ _ h => h) ?yz3x33 (by assumption) ?rz3x33
  case hiz3x33 => (simp only [List.getElem?_toArray, List.getElem?_cons_succ, List.getElem?_cons_zero]; rfl)
  case yz3x33 => (refine Or.inl ⟨by rfl, ?_⟩; intro w' hSw; (try dsimp only at hSw); go_simp; (try with_reducible rfl))
  try simp only [Act.put, List.setIfInBounds_toArray, List.set_cons_zero, List.set_cons_succ]
  refine wpAnyH_take (i := 34) (oi := ?oz3x34) (v := ?vz3x34) ?hiz3x34 (by kernel_rfl) (by kernel_rfl) (by kernel_rfl) (fun _ _ _ h => h) ?yz3x34 (by assumption) ?rz3x34
  case hiz3x34 => (simp only [List.getElem?_toArray, List.getElem?_cons_succ, List.getElem?_cons_zero]; rfl)
  case yz3x34 => (refine Or.inl ⟨by rfl, ?_⟩; intro w' hSw; (try dsimp only at hSw); go_simp; (try with_reducible rfl))
  try simp only [Act.put, List.setIfInBounds_toArray, List.set_cons_zero, List.set_cons_succ]
  refine wpAnyH_take (i := 35) (oi := ?oz3x35) (v := ?vz3x35) ?hiz3x35 (by kernel_rfl) (by kernel_rfl) (by kernel_rfl) (fun _ _ _ h => h) ?yz3x35 (by assumption) ?rz3x35
  case hiz3x35 => (simp only [List.getElem?_toArray, List.getElem?_cons_succ, List.getElem?_cons_zero]; rfl)
  case yz3x35 => (refine Or.inl ⟨by rfl, ?_⟩; intro w' hSw; (try dsimp only at hSw); go_simp; (try with_reducible rfl))
  try simp only [Act.put, List.setIfInBounds_toArray, List.set_cons_zero, List.set_cons_succ]
  refine wpAnyH_take (i := 36) (oi := ?oz3x36) (v := ?vz3x36) ?hiz3x36 (by kernel_rfl) (by kernel_rfl) (by kernel_rfl) (fun _ _ _ h => h) ?yz3x36 (by assumption) ?rz3x36
  case hiz3x36 => (simp only [List.getElem?_toArray, List.getElem?_cons_succ, List.getElem?_cons_zero]; rfl)
  case yz3x36 => (refine Or.inl ⟨by rfl, ?_⟩; intro w' hSw; (try dsimp only at hSw); go_simp; (try with_reducible rfl))
  try simp only [Act.put, List.setIfInBounds_toArray, List.set_cons_zero, List.set_cons_succ]
  refine wpAnyH_take (i := 37) (oi := ?oz3x37) (v := ?vz3x37) ?hiz3x37 (by kernel_rfl) (by kernel_rfl) (by kernel_rfl) (fun _ _ _ h => h) ?yz3x37 (by assumption) ?rz3x37
  case hiz3x37 => (simp only [List.getElem?_toArray, List.getElem?_cons_succ, List.getElem?_cons_zero]; rfl)
  case yz3x37 => (refine Or.inl ⟨by rfl, ?_⟩; intro w' hSw; (try dsimp only at hSw); go_simp; (try with_reducible rfl))
  try simp only [Act.put, List.setIfInBounds_toArray, List.set_cons_zero, List.set_cons_succ]
  refine wpAnyH_take (i := 38) (oi := ?oz3x38) (v := ?vz3x38) ?hiz3x38 (by kernel_rfl) (by kernel_rfl) (by kernel_rfl) (fun _ _ _ h => h) ?yz3x38 (by assumption) ?rz3x38
  case hiz3x38 => (simp only [List.getElem?_toArray, List.getElem?_cons_succ, List.getElem?_cons_zero]; rfl)
  case yz3x38 => (refine Or.inl ⟨by rfl, ?_⟩; intro w' hSw; (try dsimp only at hSw); go_simp; (try with_reducible rfl))
  try simp only [Act.put, List.setIfInBounds_toArray, List.set_cons_zero, List.set_cons_succ]
  refine wpAnyH_take (i := 39) (oi := ?oz3x39) (v := ?vz3x39) ?hiz3x39 (by kernel_rfl) (by kernel_rfl) (by kernel_rfl) (fun _ _ _ h => h) ?yz3x39 (by assumption) ?rz3x39
  case hiz3x39 => (simp only [List.getElem?_toArray, List.getElem?_cons_succ, List.getElem?_cons_zero]; rfl)
  case yz3x39 => (refine Or.inl ⟨by rfl, ?_⟩; intro w' hSw; (try dsimp only at hSw); go_simp; (try with_reducible rfl))
  try simp only [Act.put, List.setIfInBounds_toArray, List.set_cons_zero, List.set_cons_succ]
  refine wpAnyH_take (i := 40) (oi := ?oz3x40) (v := ?vz3x40) ?hiz3x40 (by kernel_rfl) (by kernel_rfl) (by kernel_rfl) (fun _ _ _ h => h) ?yz3x40 (by assumption) ?rz3x40
  case hiz3x40 => (simp only [List.getElem?_toArray, List.getElem?_cons_succ, List.getElem?_cons_zero]; rfl)
  case yz3x40 => (refine Or.inl ⟨by rfl, ?_⟩; intro w' hSw; (try dsimp only at hSw); go_simp; (try with_reducible rfl))
  try simp only [Act.put, List.setIfInBounds_toArray, List.set_cons_zero, List.set_cons_succ]
  refine wpAnyH_take (i := 41) (oi := ?oz3x41) (v := ?vz3x41) ?hiz3x41 (by kernel_rfl) (by kernel_rfl) (by kernel_rfl) (fun _ _ _ h => h) ?yz3x41 (by assumption) ?rz3x41
  case hiz3x41 => (simp only [List.getElem?_toArray, List.getElem?_cons_succ, List.getElem?_cons_zero]; rfl)
  case yz3x41 => (refine Or.inl ⟨by rfl, ?_⟩; intro w' hSw; (try dsimp only at hSw); go_simp; (try with_reducible rfl))
  try simp only [Act.put, List.setIfInBounds_toArray, List.set_cons_zero, List.set_cons_succ]
  refine wpAnyH_take (i := 42) (oi := ?oz3x42) (v := ?vz3x42) ?hiz3x42 (by kernel_rfl) (by kernel_rfl) (by kernel_rfl) (fun _ _ _ h => h) ?yz3x42 (by assumption) ?rz3x42
  case hiz3x42 => (simp only [List.getElem?_toArray, List.getElem?_cons_succ, List.getElem?_cons_zero]; rfl)
  case yz3x42 => (refine Or.inl ⟨by rfl, ?_⟩; intro w' hSw; (try dsimp only at hSw); go_simp; (try with_reducible rfl))
  try simp only [Act.put, List.setIfInBounds_toArray, List.set_cons_zero, List.set_cons_succ]
  refine wpAnyH_take (i := 43) (oi := ?oz3x43) (v := ?vz3x43) ?hiz3x43 (by kernel_rfl) (by kernel_rfl) (by kernel_rfl) (fun _ _ _ h => h) ?yz3x43 (by assumption) ?rz3x43
  case hiz3x43 => (simp only [List.getElem?_toArray, List.getElem?_cons_succ, List.getElem?_cons_zero]; rfl)
  case yz3x43 => (refine Or.inl ⟨by rfl, ?_⟩; intro w' hSw; (try dsimp only at hSw); go_simp; (try with_reducible rfl))
  try simp only [Act.put, List.setIfInBounds_toArray, List.set_cons_zero, List.set_cons_succ]
  refine wpAnyH_take (i := 44) (oi := ?oz3x44) (v := ?vz3x44) ?hiz3x44 (by kernel_rfl) (by kernel_rfl) (by kernel_rfl) (fun _ _ _ h => h) ?yz3x44 (by assumption) ?rz3x44
  case hiz3x44 => (simp only [List.getElem?_toArray, List.getElem?_cons_succ, List.getElem?_cons_zero]; rfl)
  case yz3x44 => (refine Or.inl ⟨by rfl, ?_⟩; intro w' hSw; (try dsimp only at hSw); go_simp; (try with_reducible rfl))
  try simp only [Act.put, List.setIfInBounds_toArray, List.set_cons_zero, List.set_cons_succ]
  refine wpAnyH_take (i := 45) (oi := ?oz3x45) (v := ?vz3x45) ?hiz3x45 (by kernel_rfl) (by kernel_rfl) (by kernel_rfl) (fun _ _ _ h => h) ?yz3x45 (by assumption) ?rz3x45
  case hiz3x45 => (simp only [List.getElem?_toArray, List.getElem?_cons_succ, List.getElem?_cons_zero]; rfl)
  case yz3x45 => (refine Or.inl ⟨by rfl, ?_⟩; intro w' hSw; (try dsimp only at hSw); go_simp; (try with_reducible rfl))
  try simp only [Act.put, List.setIfInBounds_toArray, List.set_cons_zero, List.set_cons_succ]
  refine wpAnyH_take (i := 46) (oi := ?oz3x46) (v := ?vz3x46) ?hiz3x46 (by kernel_rfl) (by kernel_rfl) (by kernel_rfl) (fun _ _ _ h => h) ?yz3x46 (by assumption) ?rz3x46
  case hiz3x46 => (simp only [List.getElem?_toArray, List.getElem?_cons_succ, List.getElem?_cons_zero]; rfl)
  case yz3x46 => (refine Or.inl ⟨by rfl, ?_⟩; intro w' hSw; (try dsimp only at hSw); go_simp; (try with_reducible rfl))
  try simp only [Act.put, List.setIfInBounds_toArray, List.set_cons_zero, List.set_cons_succ]
  refine wpAnyH_take (i := 47) (oi := ?oz3x47) (v := ?vz3x47) ?hiz3x47 (by kernel_rfl) (by kernel_rfl) (by kernel_rfl) (fun _ _ _ h => h) ?yz3x47 (by assumption) ?rz3x47
  case hiz3x47 => (simp only [List.getElem?_toArray, List.getElem?_cons_succ, List.getElem?_cons_zero]; rfl)
  case yz3x47 => (refine Or.inl ⟨by rfl, ?_⟩; intro w' hSw; (try dsimp only at hSw); go_simp; (try with_reducible rfl))
  try simp only [Act.put, List.setIfInBounds_toArray, List.set_cons_zero, List.set_cons_succ]
  refine wpAnyH_take (i := 48) (oi := ?oz3x48) (v := ?vz3x48) ?hiz3x48 (by kernel_rfl) (by kernel_rfl) (by kernel_rfl) (fun _ _ _ h => h) ?yz3x48 (by assumption) ?rz3x48
  case hiz3x48 => (simp only [List.getElem?_toArray, List.getElem?_cons_succ, List.getElem?_cons_zero]; rfl)
  case yz3x48 => (refine Or.inl ⟨by rfl, ?_⟩; intro w' hSw; (try dsimp only at hSw); go_simp; (try with_reducible rfl))
  try simp only [Act.put, List.setIfInBounds_toArray, List.set_cons_zero, List.set_cons_succ]
  refine wpAnyH_take (i := 49) (oi := ?oz3x49) (v := ?vz3x49) ?hiz3x49 (by kernel_rfl) (by kernel_rfl) (by kernel_rfl) (fun _ _ _ h => h) ?yz3x49 (by assumption) ?rz3x49
  case hiz3x49 => (simp only [List.getElem?_toArray, List.getElem?_cons_succ, List.getElem?_cons_zero]; rfl)
  case yz3x49 => (refine Or.inl ⟨by rfl, ?_⟩; intro w' hSw; (try dsimp only at hSw); go_simp; (try with_reducible rfl))
  try simp only [Act.put, List.setIfInBounds_toArray, List.set_cons_zero, List.set_cons_succ]
  refine wpAnyH_take (i := 50) (oi := ?oz3x50) (v := ?vz3x50) ?hiz3x50 (by kernel_rfl) (by kernel_rfl) (by kernel_rfl) (fun _ _ _ h => h) ?yz3x50 (by assumption) ?rz3x50
  case hiz3x50 => (simp only [List.getElem?_toArray, List.getElem?_cons_succ, List.getElem?_cons_zero]; rfl)
  case yz3x50 => (refine Or.inl ⟨by rfl, ?_⟩; intro w' hSw; (try dsimp only at hSw); go_simp; (try with_reducible rfl))
  try simp only [Act.put, List.setIfInBounds_toArray, List.set_cons_zero, List.set_cons_succ]
  refine wpAnyH_take (i := 51) (oi := ?oz3x51) (v := ?vz3x51) ?hiz3x51 (by kernel_rfl) (by kernel_rfl) (by kernel_rfl) (fun _ _ _ h => h) ?yz3x51 (by assumption) ?rz3x51
  case hiz3x51 => (simp only [List.getElem?_toArray, List.getElem?_cons_succ, List.getElem?_cons_zero]; rfl)
  case yz3x51 => (refine Or.inl ⟨by rfl, ?_⟩; intro w' hSw; (try dsimp only at hSw); go_simp; (try with_reducible rfl))
  try simp only [Act.put, List.setIfInBounds_toArray, List.set_cons_zero, List.set_cons_succ]
  refine wpAnyH_take (i := 52) (oi := ?oz3x52) (v := ?vz3x52) ?hiz3x52 (by kernel_rfl) (by kernel_rfl) (by kernel_rfl) (fun _ _ _ h => h) ?yz3x52 (by assumption) ?rz3x52
  case hiz3x52 => (simp only [List.getElem?_toArray, List.getElem?_cons_succ, List.getElem?_cons_zero]; rfl)
  case yz3x52 => (refine Or.inl ⟨by rfl, ?_⟩; intro w' hSw; (try dsimp only at hSw); go_simp; (try with_reducible rfl))
  try simp only [Act.put, List.setIfInBounds_toArray, List.set_cons_zero, List.set_cons_succ]
  refine wpAnyH_take (i := 53) (oi := ?oz3x53) (v := ?vz3x53) ?hiz3x53 (by kernel_rfl) (by kernel_rfl) (by kernel_rfl) (fun _ _ _ h => h) ?yz3x53 (by assumption) ?rz3x53
  case hiz3x53 => (simp only [List.getElem?_toArray, List.getElem?_cons_succ, List.getElem?_cons_zero]; rfl)
  case yz3x53 => (refine Or.inl ⟨by rfl, ?_⟩; intro w' hSw; (try dsimp only at hSw); go_simp; (try with_reducible rfl))
  try simp only [Act.put, List.setIfInBounds_toArray, List.set_cons_zero, List.set_cons_succ]
  refine wpAnyH_take (i := 54) (oi := ?oz3x54) (v := ?vz3x54) ?hiz3x54 (by kernel_rfl) (by kernel_rfl) (by kernel_rfl) (fun _ _ _ h => h) ?yz3x54 (by assumption) ?rz3x54
  case hiz3x54 => (simp only [List.getElem?_toArray, List.getElem?_cons_succ, List.getElem?_cons_zero]; rfl)
  case yz3x54 => (refine Or.inl ⟨by rfl, ?_⟩; intro w' hSw; (try dsimp only at hSw); go_simp; (try with_reducible rfl))
  try simp only [Act.put, List.setIfInBounds_toArray, List.set_cons_zero, List.set_cons_succ]
  refine wpAnyH_take (i := 55) (oi := ?oz3x55) (v := ?vz3x55) ?hiz3x55 (by kernel_rfl) (by kernel_rfl) (by kernel_rfl) (fun _ _ _ h => h) ?yz3x55 (by assumption) ?rz3x55
  case hiz3x55 => (simp only [List.getElem?_toArray, List.getElem?_cons_succ, List.getElem?_cons_zero]; rfl)
  case yz3x55 => (refine Or.inl ⟨by rfl, ?_⟩; intro w' hSw; (try dsimp only at hSw); go_simp; (try with_reducible rfl))
  try simp only [Act.put, List.setIfInBounds_toArray, List.set_cons_zero, List.set_cons_succ]
  refine wpAnyH_take (i := 56) (oi := ?oz3x56) (v := ?vz3x56) ?hiz3x56 (by kernel_rfl) (by kernel_rfl) (by kernel_rfl) (fun _ _ _ h => h) ?yz3x56 (by assumption) ?rz3x56
  case hiz3x56 => (simp only [List.getElem?_toArray, List.getElem?_cons_succ, List.getElem?_cons_zero]; rfl)
  case yz3x56 => (refine Or.inl ⟨by rfl, ?_⟩; intro w' hSw; (try dsimp only at hSw); go_simp; (try with_reducible rfl))
  try simp only [Act.put, List.setIfInBounds_toArray, List.set_cons_zero, List.set_cons_succ]
  refine wpAnyH_take (i := 57) (oi := ?oz3x57) (v := ?vz3x57) ?hiz3x57 (by kernel_rfl) (by kernel_rfl) (by kernel_rfl) (fun _ _ _ h => h) ?yz3x57 (by assumption) ?rz3x57
  case hiz3x57 => (simp only [List.getElem?_toArray, List.getElem?_cons_succ, List.getElem?_cons_zero]; rfl)
  case yz3x57 => (refine Or.inl ⟨by rfl, ?_⟩; intro w' hSw; (try dsimp only at hSw); go_simp; (try with_reducible rfl))
  try simp only [Act.put, List.setIfInBounds_toArray, List.set_cons_zero, List.set_cons_succ]
  refine wpAnyH_take (i := 58) (oi := ?oz3x58) (v := ?vz3x58) ?hiz3x58 (by kernel_rfl) (by kernel_rfl) (by kernel_rfl) (fun _ _ _ h => h) ?yz3x58 (by assumption) ?rz3x58
  case hiz3x58 => (simp only [List.getElem?_toArray, List.getElem?_cons_succ, List.getElem?_cons_zero]; rfl)
  case yz3x58 => (refine Or.inl ⟨by rfl, ?_⟩; intro w' hSw; (try dsimp only at hSw); go_simp; (try with_reducible rfl))
  try simp only [Act.put, List.setIfInBounds_toArray, List.set_cons_zero, List.set_cons_succ]
  refine wpAnyH_take (i := 59) (oi := ?oz3x59) (v := ?vz3x59) ?hiz3x59 (by kernel_rfl) (by kernel_rfl) (by kernel_rfl) (fun _ _ _ h => h) ?yz3x59 (by assumption) ?rz3x59
  case hiz3x59 => (simp only [List.getElem?_toArray, List.getElem?_cons_succ, List.getElem?_cons_zero]; rfl)
  case yz3x59 => (refine Or.inl ⟨by rfl, ?_⟩; intro w' hSw; (try dsimp only at hSw); go_simp; (try with_reducible rfl))
  try simp only [Act.put, List.setIfInBounds_toArray, List.set_cons_zero, List.set_cons_succ]
  refine wpAnyH_take (i := 60) (oi := ?oz3x60) (v := ?vz3x60) ?hiz3x60 (by kernel_rfl) (by kernel_rfl) (by kernel_rfl) (fun _ _ _ h => h) ?yz3x60 (by assumption) ?rz3x60
  case hiz3x60 => (simp only [List.getElem?_toArray, List.getElem?_cons_succ, List.getElem?_cons_zero]; rfl)
  case yz3x60 => (refine Or.inl ⟨by rfl, ?_⟩; intro w' hSw; (try dsimp only at hSw); go_simp; (try with_reducible rfl))
  try simp only [Act.put, List.setIfInBounds_toArray, List.set_cons_zero, List.set_cons_succ]
  refine wpAnyH_take (i := 61) (oi := ?oz3x61) (v := ?vz3x61) ?hiz3x61 (by kernel_rfl) (by kernel_rfl) (by kernel_rfl) (fun _ _ _ h => h) ?yz3x61 (by assumption) ?rz3x61
  case hiz3x61 => (simp only [List.getElem?_toArray, List.getElem?_cons_succ, List.getElem?_cons_zero]; rfl)
  case yz3x61 => (refine Or.inl ⟨by rfl, ?_⟩; intro w' hSw; (try dsimp only at hSw); go_simp; (try with_reducible rfl))
  try simp only [Act.put, List.setIfInBounds_toArray, List.set_cons_zero, List.set_cons_succ]
  refine wpAnyH_take (i := 62) (oi := ?oz3x62) (v := ?vz3x62) ?hiz3x62 (by kernel_rfl) (by kernel_rfl) (by kernel_rfl) (fun _ _ _ h => h) ?yz3x62 (by assumption) ?rz3x62
  case hiz3x62 => (simp only [List.getElem?_toArray, List.getElem?_cons_succ, List.getElem?_cons_zero]; rfl)
  case yz3x62 => (refine Or.inl ⟨by rfl, ?_⟩; intro w' hSw; (try dsimp only at hSw); go_simp; (try with_reducible rfl))
  try simp only [Act.put, List.setIfInBounds_toArray, List.set_cons_zero, List.set_cons_succ]
  refine wpAnyH_take (i := 63) (oi := ?oz3x63) (v := ?vz3x63) ?hiz3x63 (by kernel_rfl) (by kernel_rfl) (by kernel_rfl) (fun _ _ _ h => h) ?yz3x63 (by assumption) ?rz3x63
  case hiz3x63 => (simp only [List.getElem?_toArray, List.getElem?_cons_succ, List.getElem?_cons_zero]; rfl)
  case yz3x63 => (refine Or.inl ⟨by rfl, ?_⟩; intro w' hSw; (try dsimp only at hSw); go_simp; (try with_reducible rfl))
  try simp only [Act.put, List.setIfInBounds_toArray, List.set_cons_zero, List.set_cons_succ]
  refine wpAnyH_take (i := 64) (oi := ?oz3x64) (v := ?vz3x64) ?hiz3x64 (by kernel_rfl) (by kernel_rfl) (by kernel_rfl) (fun _ _ _ h => h) ?yz3x64 (by assumption) ?rz3x64
  case hiz3x64 => (simp only [List.getElem?_toArray, List.getElem?_cons_succ, List.getElem?_cons_zero]; rfl)
  case yz3x64 => (refine Or.inl ⟨by rfl, ?_⟩; intro w' hSw; (try dsimp only at hSw); go_simp; (try with_reducible rfl))
  try simp only [Act.put, List.setIfInBounds_toArray, List.set_cons_zero, List.set_cons_succ]
  refine wpAnyH_take (i := 65) (oi := ?oz3x65) (v := tdv tu7) ?hiz3x65 (by kernel_rfl) (by kernel_rfl) (by kernel_rfl) (fun _ _ _ h => h) ?yz3x65 (by assumption) ?rz3x65
  case hiz3x65 => (simp only [List.getElem?_toArray, List.getElem?_cons_succ, List.getElem?_cons_zero]; rfl)
  case yz3x65 => (refine td_yields rfl rfl (k1 + 1) rfl tu7 ?_; intro w' hS; exact hS.2.1)
  try simp only [Act.put, List.setIfInBounds_toArray, List.set_cons_zero, List.set_cons_succ]
  refine wpAnyH_ready (rs := [66]) (by kernel_rfl) (by simp) ?_
  refine AllReadyH.cons (o := ?oz3x66) ?hiz3x66 ?hstz3x66 AllReadyH.nil
  case hiz3x66 => (simp only [List.getElem?_toArray, List.getElem?_cons_succ, List.getElem?_cons_zero]; rfl)
  intro K hK
  go_simp
  (go_at_call 12; (with_reducible refine (HA2.out _).mono ?_); rintro e w13 ⟨rfl, hb13⟩)
  go_wp2_with fail
  refine hK.out _ _ ⟨Bx.Blk.keep hHeld.1 hb13, Bx.Blk.keep hHeld.2.1 hb13, Bx.keep_cell hb13 hHeld.2.2.1, Bx.keep_cell hb13 hHeld.2.2.2.1, Bx.keep_cell hb13 hHeld.2.2.2.2.1, Bx.keep_cell hb13 hHeld.2.2.2.2.2.1, Bx.keep_cell hb13 hHeld.2.2.2.2.2.2.1, Bx.keep_cell hb13 hHeld.2.2.2.2.2.2.2.1, Bx.keep_cell hb13 hHeld.2.2.2.2.2.2.2.2.1, Bx.keep_cell hb13 hHeld.2.2.2.2.2.2.2.2.2.1, Bx.keep_cell hb13 hHeld.2.2.2.2.2.2.2.2.2.2.1, Bx.keep_cell hb13 hHeld.2.2.2.2.2.2.2.2.2.2.2.1, Bx.keep_cell hb13 hHeld.2.2.2.2.2.2.2.2.2.2.2.2.1, Bx.keep_cell hb13 hHeld.2.2.2.2.2.2.2.2.2.2.2.2.2.1, Bx.keep_cell hb13 hHeld.2.2.2.2.2.2.2.2.2.2.2.2.2.2⟩ (fun hNew => ?_)
  clear hHeld
  have hHeld := hNew
  clear hNew hK K
  replace bel := Lib.hid (Bx.then_below bel.out hb13)
  clear hb13
  refine wpAnyH_take (i := 67) (oi := ?oz3x67) (v := ?vz3x67) ?hiz3x67 (by kernel_rfl) (by kernel_rfl) (by kernel_rfl) (fun _ _ _ h => h) ?yz3x67 (by assumption) ?rz3x67
  case hiz3x67 => (simp only [List.getElem?_toArray, List.getElem?_cons_succ, List.getElem?_cons_zero]; rfl)
  case yz3x67 => (refine Or.inl ⟨by rfl, ?_⟩; intro w' hSw; (try dsimp only at hSw); go_simp; (try with_reducible rfl))
  try simp only [Act.put, List.setIfInBounds_toArray, List.set_cons_zero, List.set_cons_succ]
  refine wpAnyH_take (i := 68) (oi := ?oz3x68) (v := ?vz3x68) ?hiz3x68 (by kernel_rfl) (by kernel_rfl) (by kernel_rfl) (fun _ _ _ h => h) ?yz3x68 (by assumption) ?rz3x68
  case hiz3x68 => (simp only [List.getElem?_toArray, List.getElem?_cons_succ, List.getElem?_cons_zero]; rfl)
  case yz3x68 => (refine Or.inl ⟨by rfl, ?_⟩; intro w' hSw; (try dsimp only at hSw); go_simp; (try with_reducible rfl))
  try simp only [Act.put, List.setIfInBounds_toArray, List.set_cons_zero, List.set_cons_succ]
  refine wpAnyH_take (i := 69) (oi := ?oz3x69) (v := ?vz3x69) ?hiz3x69 (by kernel_rfl) (by kernel_rfl) (by kernel_rfl) (fun _ _ _ h => h) ?yz3x69 (by assumption) ?rz3x69
  case hiz3x69 => (simp only [List.getElem?_toArray, List.getElem?_cons_succ, List.getElem?_cons_zero]; rfl)
  case yz3x69 => (refine Or.inl ⟨by rfl, ?_⟩; intro w' hSw; (try dsimp only at hSw); go_simp; (try with_reducible rfl))
  try simp only [Act.put, List.setIfInBounds_toArray, List.set_cons_zero]
  refine wpAnyH_done (by kernel_rfl) ?_ _
  refine NoPanic.normal ?_
  clear hHeld
  go_wp2_with fail
  go_ret
  exact ⟨rfl, bel.out⟩

end Elt
end Go.Proofs.Ytlaahomkgaaciaa
