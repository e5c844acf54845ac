/-
  slices.Insert of one entry into a row of the call's own: at its end, between with room, between without room.
-/
import Derived.Test.YtmojegnflcokjaaDoorPkTabE
import Derived.Lib.Overlaps
import Derived.Lib.AppendZerosOnto
namespace Go.Proofs.YtmojegnflcokjaaDoor
open Go.RowKit
namespace Tab
open Oct

theorem splice_shift {α : Type} (L T X D : List α) (a d : Nat) (hT : L.take a = T) (hX : X.length = 4) (hD : D.length = d) (hL : a + 4 + d ≤ L.length) : (splice (splice L (a + 4) D) a X).take (a + 4 + d) = T ++ (X ++ D) := by
  have hTl : T.length = a := by rw [← hT, List.length_take]; omega
  have e1 : (splice L (a + 4) D).take a = T := by
    unfold splice
    rw [List.take_append_of_le_length (by rw [List.length_take]; omega), List.take_take, Nat.min_eq_left (by omega), hT]
  have e2 : (splice L (a + 4) D).drop (a + X.length) = D ++ L.drop (a + 4 + d) := by
    unfold splice
    rw [hX, hD, List.drop_append_of_le_length (by rw [List.length_take]; omega), List.drop_of_length_le (by rw [List.length_take]; omega), List.nil_append]
  generalize splice L (a + 4) D = S at *
  unfold splice
  rw [e1, e2, ← List.append_assoc, ← List.append_assoc, List.take_append_of_le_length (by simp only [List.length_append]; omega), List.take_of_length_le (by simp only [List.length_append]; omega), List.append_assoc]

theorem splice_grow {α : Type} (L T X D : List α) (a d : Nat) (hT : L.take a = T) (hX : X.length = 4) (hD : D.length = d) (hL : a + 4 + d ≤ L.length) : (splice (splice L a X) (a + 4) D).take (a + 4 + d) = T ++ (X ++ D) := by
  have hTl : T.length = a := by rw [← hT, List.length_take]; omega
  have e1 : (splice L a X).take (a + 4) = T ++ X := by
    unfold splice
    rw [hT, ← List.append_assoc, List.take_append_of_le_length (by simp only [List.length_append]; omega), List.take_of_length_le (by simp only [List.length_append]; omega)]
  generalize splice L a X = S at *
  unfold splice
  rw [e1, ← List.append_assoc, List.take_append_of_le_length (by simp only [List.length_append]; omega), List.take_of_length_le (by simp only [List.length_append]; omega), List.append_assoc]

theorem ins_flat (l : List En) (i : Nat) (x : En) : (l.take i ++ x :: l.drop i).flatMap enc = (l.take i).flatMap enc ++ (enc x ++ (l.drop i).flatMap enc) := by
  rw [List.flatMap_append, List.flatMap_cons]

theorem take_flat (l : List En) (i : Nat) : (l.flatMap enc).take (i * 4) = (l.take i).flatMap enc := by
  induction l generalizing i with
  | nil => simp
  | cons x l ih =>
    cases i with
    | zero => simp
    | succ i =>
      rw [List.flatMap_cons, show (i + 1) * 4 = (enc x).length + i * 4 by show _ = 4 + i * 4; omega, List.take_length_add_append, ih, List.take_succ_cons, List.flatMap_cons]

theorem drop_flat (l : List En) (i : Nat) : (l.flatMap enc).drop (i * 4) = (l.drop i).flatMap enc := by
  induction l generalizing i with
  | nil => simp
  | cons x l ih =>
    cases i with
    | zero => simp
    | succ i =>
      rw [List.flatMap_cons, show (i + 1) * 4 = (enc x).length + i * 4 by show _ = 4 + i * 4; omega, List.drop_length_add_append, ih, List.drop_succ_cons]

/-- A slice handed back, a row of the call's own; nothing else has changed. -/
def InsG (base : Nat) (l : List En) (row : Option Nat) (w : World) (e : Ending) (w' : World) : Prop :=
  ∃ B c, e = .returned (.slice B l.length c) ∧ w'.ownsRow base 62 4 (.slice B l.length c) l.length (l.flatMap enc) ∧ w.grownBy w' row

set_option maxRecDepth 20000 in
set_option maxHeartbeats 4000000 in
theorem ins_end (base : Nat) (l : List En) (hl : l.length ≤ 100000) (x : En) (B : Option Addr) (c vb : Nat) (w : World) (hbase : base ≤ w.heap.size)
    (hown : w.ownsRow base 62 4 (.slice B l.length c) l.length (l.flatMap enc)) (hv : w.heap[vb]? = some (.cells (enc x).toArray 62 (0, 0))) :
    Calls Tryd.prog 76 #[.slice B l.length c, .int .i64 l.length, .slice (some ⟨vb, 0, none⟩) 1 1] w (InsG base (l ++ [x]) (Value.slice B l.length c).ownBlock w) := by
  obtain ⟨i0, hi, hz0, hz1, hz2⟩ := info_parts info_en
  have hsrc : ∀ (j : Nat) (u : Value), (enc x)[j]? = some u → w.cell? (Addr.add ⟨vb, 0, none⟩ j) = some u := fun j u hu => by
    rw [Addr.add_lit, Nat.zero_add, cell_of_row w vb j _ _ (0, 0) hv]
    simpa using hu
  have hle : (l.length : Int) ≤ (l.length : Int) := Int.le_refl _
  have hnc : l.length ≤ c := by
    rcases hown.2 with ⟨h1, h0⟩ | ⟨g, cap, cur, h1, _, _, h4, _⟩
    · omega
    · injection h1 with _ _ e3
      omega
  have HO := Lib.hid hown
  have HC := Lib.hid hsrc
  clear hown hv hsrc
  rcases (show B = none ∨ (∃ ad, B = some ad ∧ c = l.length) ∨ (∃ ad, B = some ad ∧ ¬ c = l.length) by
    cases B with
    | none => exact .inl rfl
    | some ad =>
      by_cases h : c = l.length
      · exact .inr (.inl ⟨ad, rfl, h⟩)
      · exact .inr (.inr ⟨ad, rfl, h⟩)) with rfl | ⟨ad, rfl, rfl⟩ | ⟨ad, rfl, hne⟩
  all_goals
    go_enter Tryd.func76, Tryd.ntmps76
    go_wp2_with (at_builtin; refine wpList_append_own _ rfl _ _ 22 rfl base 62 i0 (.agg #[.int .i64 0, .int .u64 0, .int .i64 0, .int .i64 0]) 4 32 Tryd.underlying22 hi hz0 hz1 hz2 rfl (by decide) _ _ _ rfl HO.out ⟨vb, 0, none⟩ 1 1 (enc x) rfl rfl HC.out ?c2 ?c3 ?c4 hbase ?_)
    case c2 => intro u hu; exact enc_one [x] u (by simpa using hu)
    case c3 => unfold maxLen; omega
    case c4 => omega
    intro v' w5 hown' hgrow _
    obtain ⟨B', c', rfl, hW'⟩ := own_next hown'
    have HW3 := Lib.hid hW'
    have HGR := Lib.hid hgrow
    clear hown' hgrow hW'
    go_wp2
    go_ret
    exact ⟨B', c', rfl, HW3.out, HGR.out⟩

set_option maxRecDepth 20000 in
set_option maxHeartbeats 4000000 in
theorem ins_shift (base : Nat) (l : List En) (hl : l.length ≤ 100000) (i : Nat) (hi : i < l.length) (x : En) (g c vb : Nat) (w : World) (hroom : l.length + 1 ≤ c) (hne : vb ≠ g)
    (hown : w.ownsRow base 62 4 (.slice (some ⟨g, 0, none⟩) l.length c) l.length (l.flatMap enc)) (hv : w.heap[vb]? = some (.cells (enc x).toArray 62 (0, 0))) :
    Calls Tryd.prog 76 #[.slice (some ⟨g, 0, none⟩) l.length c, .int .i64 i, .slice (some ⟨vb, 0, none⟩) 1 1] w (InsG base (l.take i ++ x :: l.drop i) (some g) w) := by
  obtain ⟨i0, hi0, hz0, hzs, hzb⟩ := info_parts info_en
  have hsz : (Tryd.prog.info? 62).map (·.size) = some 4 := by rw [hi0]; simp [hzs]
  rcases hown.2 with ⟨h1, h0⟩ | ⟨g', cap, cur, h1, hbg, hg, h4, hcm, hcs, htk⟩
  · cases h1
  injection h1 with e1 _ e3
  injection e1 with e1
  injection e1 with e1
  subst e1 e3
  have hgl : g < w.heap.size := (Array.getElem?_eq_some_iff.1 hg).1
  have hov : ∀ lb cb, (callFunc 87 #[.slice (some ⟨vb, 0, none⟩) 1 1, .slice (some ⟨g, (i + 1) * 4, none⟩) lb cb]).run Tryd.prog w = .ok (.value (.bool false)) w := fun lb cb => by
    rw [run_callFunc_extern Tryd.func87 (by kernel_rfl) (by kernel_rfl) (by kernel_rfl) (e := Extern.SlicesOverlaps.overlaps #[22, 22] #[4]) (by kernel_rfl),
      Lib.run_overlaps_apart w 22 4 62 Tryd.underlying22 4 (fun w => by simp [sizeOf, typeInfo, hi0, hzs]) ⟨vb, 0, none⟩ ⟨g, (i + 1) * 4, none⟩ 1 1 lb cb hne 62 62 4 cur.size
        (by simp [World.shape?, hv, enc]) (by simp [World.shape?, hg]) (by omega) (frozen_of_row w vb 0 _ _ hv) (frozen_of_row w vb 4 _ _ hv)]
    rfl
  have hD : ((l.drop i).flatMap enc).length = (l.length - i) * 4 := by rw [enc_length, List.length_drop]
  have hT : cur.toList.take (i * 4) = (l.take i).flatMap enc := by
    rw [← take_flat, ← htk, List.take_take, Nat.min_eq_left (by omega)]
  have hsrcD : ∀ (j : Nat) (u : Value), ((l.drop i).flatMap enc)[j]? = some u → w.drew.cell? (Addr.add ⟨g, i * 4, none⟩ j) = some u := fun j u hu => by
    rw [Addr.add_lit]
    rw [← drop_flat, ← htk, List.getElem?_drop, List.getElem?_take] at hu
    split at hu
    · show w.cell? _ = _
      rw [cell_of_row w g _ _ _ (0, 0) hg]
      simpa using hu
    · cases hu
  have HF := Lib.hid (splice_shift cur.toList _ (enc x) _ (i * 4) _ hT rfl hD (by have : cur.toList.length = c * 4 := hcs; omega))
  have HSrc := Lib.hid hsrcD
  have HG := Lib.hid (show w.drew.heap[g]? = some (.cells cur.toList.toArray 62 (0, 0)) from hg)
  have HV := Lib.hid hv
  have HL := Lib.hid (show (l.take i ++ x :: l.drop i).length = l.length + 1 by simp; omega)
  have HI := Lib.hid (ins_flat l i x)
  have HD := Lib.hid hD
  have HDo := Lib.hid (enc_one (l.drop i))
  have HXo := Lib.hid (show ∀ u ∈ enc x, u.oneCell' = true from fun u hu => enc_one [x] u (by simpa using hu))
  have HXl := Lib.hid (show (enc x).length = 1 * 4 from rfl)
  have HCL := Lib.hid (show cur.toList.length = c * 4 from hcs)
  clear hsrcD hT htk hown hv hg hD hi0 hz0 hzs hzb h4 hcs
  generalize (l.drop i).flatMap enc = D at *
  generalize (l.take i).flatMap enc = T at *
  generalize cur.toList = C at *
  generalize (l.take i ++ x :: l.drop i) = L at *
  generalize l.length = n at *
  obtain ⟨j, hj⟩ : ∃ j, j = i + 1 := ⟨_, rfl⟩
  obtain ⟨n1, hn⟩ : ∃ n1, n1 = n + 1 := ⟨_, rfl⟩
  rw [← hj] at hov
  have hw1 : IntKind.i64.wrap ((i : Int) + 1) = (j : Int) := by rw [IntKind.wrap_i64]; omega
  have hw2 : IntKind.i64.wrap ((n : Int) + 1) = (n1 : Int) := by rw [IntKind.wrap_i64]; omega
  have c1 : (i : Int) ≤ (n : Int) := by omega
  have c2 : ¬ ((i : Int) = (n : Int)) := by omega
  have c3 : ¬ ((c : Int) < (n1 : Int)) := by omega
  have c4 : (n1 : Int) ≤ (c : Int) := by omega
  have c5 : (j : Int) ≤ (n1 : Int) := by omega
  have c6 : ¬ (c = j) := by omega
  have c7 : (i : Int) ≤ (n1 : Int) := by omega
  have c8 : ¬ (c = i) := by omega
  have HM1 := Lib.hid (show n - i = Nat.min (n1 - i) (n1 - j) by show n - i = min (n1 - i) (n1 - j); omega)
  have HM2 := Lib.hid (show 1 = Nat.min 1 (n1 - i) by show 1 = min 1 (n1 - i); omega)
  have HJ := Lib.hid (show j * 4 = i * 4 + 4 by omega)
  have HF1 := Lib.hid (show j * 4 + D.length ≤ C.length by rw [HD.out, HCL.out]; omega)
  have HF2 := Lib.hid (show i * 4 + (enc x).length ≤ (splice C (j * 4) D).length by rw [length_splice _ _ _ HF1.out, HCL.out, HXl.out]; omega)
  have HGB := Lib.hid (Below.refl 0 w).drew
  have HN := Lib.hid (show n1 * 4 = i * 4 + 4 + (n - i) * 4 by omega)
  have HNL := Lib.hid hn
  have hcm' : c ≤ 9223372036854775807 := hcm
  clear hj hn hl hi hroom
  go_enter Tryd.func76, Tryd.ntmps76
  go_wp2_with (simp only [hov])
  go_region_law (refine Ck.step_copy_k rfl (.tmp 73) (.tmp 76) 22 22 rfl 4 62 Tryd.underlying22 hsz (some ⟨g, j * 4, none⟩) (some ⟨g, i * 4, none⟩) (n1 - j) (c - j) (n1 - i) (c - i) (by simp [Act.eval, Act.put]) (by simp [Act.eval, Act.put]) g (j * 4) C 62 HG.out D (n - i) HM1.out HD.out (fun _ => ⟨rfl, _, rfl, HSrc.out⟩) HF1.out HDo.out 0 w HGB.out (Nat.zero_le _) ?_; intro w2 h2 b2 s2 z2)
  have HV2 := Lib.hid ((s2.out vb hne).trans (show w.drew.heap[vb]? = _ from HV.out))
  have HVS := Lib.hid (show ∀ (k : Nat) (u : Value), (enc x)[k]? = some u → w2.cell? (Addr.add ⟨vb, 0, none⟩ k) = some u from fun k u hu => by
    rw [Addr.add_lit, Nat.zero_add, cell_of_row w2 vb k _ _ (0, 0) HV2.out]
    simpa using hu)
  go_wp2_with (with_reducible refine Ck.wpList_copy_k (o := ⟨some 82, _, _, _, _, _⟩) rfl (.tmp 80) (.tmp 81) 22 22 rfl 4 62 Tryd.underlying22 hsz (some ⟨g, i * 4, none⟩) (some ⟨vb, 0, none⟩) (n1 - i) (c - i) 1 1 rfl rfl g (i * 4) (splice C (j * 4) D) 62 h2.out (enc x) 1 HM2.out HXl.out (fun _ => ⟨rfl, _, rfl, HVS.out⟩) HF2.out HXo.out 0 w b2.out (Nat.zero_le _) ?_)
  intro w3 h3 b3 s3 z3
  have HLn : L.length = n1 := by rw [HL.out, HNL.out]
  have HTk : (splice (splice C (j * 4) D) (i * 4) (enc x)).take (n1 * 4) = L.flatMap enc := by
    rw [HJ.out, HN.out, HI.out]
    exact HF.out
  have HSz : (splice (splice C (j * 4) D) (i * 4) (enc x)).length = c * 4 := by rw [length_splice _ _ _ HF2.out, length_splice _ _ _ HF1.out, HCL.out]
  have HOwn := Lib.hid (show w3.ownsRow base 62 4 (.slice (some ⟨g, 0, none⟩) L.length c) L.length (L.flatMap enc) from
    ⟨enc_length L, .inr ⟨g, c, _, rfl, hbg, h3.out, by omega, hcm, by simpa using HSz, by rw [HLn]; simpa using HTk⟩⟩)
  have HGr := Lib.hid (show w.grownBy w3 (some g) from ⟨b3.out.os, b3.out.tape, b3.out.output, b3.out.size, fun k _ hk => (s3.out k (fun e => hk (by rw [e]))).trans (s2.out k (fun e => hk (by rw [e])))⟩)
  have HR := Lib.hid HLn
  clear HLn HTk HSz
  go_wp2
  go_ret
  exact ⟨some ⟨g, 0, none⟩, c, by rw [HR.out]; rfl, HOwn.out, HGr.out⟩

set_option maxRecDepth 20000 in
set_option maxHeartbeats 4000000 in
theorem ins_grow (base : Nat) (l : List En) (hl : l.length ≤ 100000) (i : Nat) (hi : i < l.length) (x : En) (g c vb : Nat) (w : World) (hbase : base ≤ w.heap.size) (hroom : c < l.length + 1)
    (hown : w.ownsRow base 62 4 (.slice (some ⟨g, 0, none⟩) l.length c) l.length (l.flatMap enc)) (hv : w.heap[vb]? = some (.cells (enc x).toArray 62 (0, 0))) :
    Calls Tryd.prog 76 #[.slice (some ⟨g, 0, none⟩) l.length c, .int .i64 i, .slice (some ⟨vb, 0, none⟩) 1 1] w (InsG base (l.take i ++ x :: l.drop i) (some g) w) := by
  obtain ⟨i0, hi0, hz0, hzs, hzb⟩ := info_parts info_en
  have hsz : (Tryd.prog.info? 62).map (·.size) = some 4 := by rw [hi0]; simp [hzs]
  rcases hown.2 with ⟨h1, h0⟩ | ⟨g', cap, cur, h1, hbg, hg, h4, hcm, hcs, htk⟩
  · cases h1
  injection h1 with e1 _ e3
  injection e1 with e1
  injection e1 with e1
  subst e1 e3
  have hgl : g < w.heap.size := (Array.getElem?_eq_some_iff.1 hg).1
  have hvl : vb < w.heap.size := (Array.getElem?_eq_some_iff.1 hv).1
  have hD : ((l.drop i).flatMap enc).length = (l.length - i) * 4 := by rw [enc_length, List.length_drop]
  have hTl : ((l.take i).flatMap enc).length = i * 4 := by rw [enc_length, List.length_take, Nat.min_eq_left (by omega)]
  have hT : cur.toList.take (i * 4) = (l.take i).flatMap enc := by
    rw [← take_flat, ← htk, List.take_take, Nat.min_eq_left (by omega)]
  have hcl : ∀ j, w.cell? ⟨g, j, none⟩ = cur.toList[j]? := fun j => by rw [cell_of_row w g _ _ _ (0, 0) hg]; simp
  have hsrcD : ∀ (j : Nat) (u : Value), ((l.drop i).flatMap enc)[j]? = some u → w.cell? (Addr.add ⟨g, i * 4, none⟩ j) = some u := fun j u hu => by
    rw [Addr.add_lit, hcl]
    rw [← drop_flat, ← htk, List.getElem?_drop, List.getElem?_take] at hu
    split at hu
    · exact hu
    · cases hu
  have hsrcT : ∀ (j : Nat) (u : Value), ((l.take i).flatMap enc)[j]? = some u → w.cell? (Addr.add ⟨g, 0, none⟩ j) = some u := fun j u hu => by
    rw [Addr.add_lit, Nat.zero_add, hcl]
    rw [← hT, List.getElem?_take] at hu
    split at hu
    · exact hu
    · cases hu
  have hold : (Builtin.firstCells i0.size i (.slice (some ⟨g, 0, none⟩) i c)).run Tryd.prog w.drew = .ok ((l.take i).flatMap enc).toArray w.drew := by
    rw [hzs]
    exact run_firstCells_some w.drew 4 i ⟨g, 0, none⟩ i c _ hTl hsrcT
  obtain ⟨j, hj⟩ : ∃ j, j = i + 1 := ⟨_, rfl⟩
  obtain ⟨n1, hn⟩ : ∃ n1, n1 = l.length + 1 := ⟨_, rfl⟩
  obtain ⟨kk, hk⟩ : ∃ kk, kk = n1 - i := ⟨_, rfl⟩
  have hik : i + kk = n1 := by omega
  obtain ⟨G, hG⟩ : ∃ G, G = grownCap w n1 c 62 := ⟨_, rfl⟩
  have hGn : n1 ≤ G := by rw [hG]; exact grownCap_ge w _ _ _
  have hGm : G ≤ maxLen := by rw [hG]; exact grownCap_le_maxLen w _ _ _ (by unfold maxLen; omega)
  have hrz : ∀ ty, (Builtin.append_ #[22, 3] ty #[.slice (some ⟨g, 0, none⟩) i c, .int .i64 kk]).run Tryd.prog w =
      .ok (.slice (some ⟨w.heap.size, 0, none⟩) n1 G) (w.drew.alloc (.cells (((l.take i).flatMap enc).toArray ++ Builtin.zeroCells (Value.agg #[.int .i64 0, .int .u64 0, .int .i64 0, .int .i64 0]).cells kk ++ Builtin.zeroCells (Value.agg #[.int .i64 0, .int .u64 0, .int .i64 0, .int .i64 0]).cells (G - n1)) 62)) := fun ty => by
    have h := Lib.run_append_grow_zeros w 22 3 ty 62 i0 _ .i64 .i64 Tryd.underlying22 Tryd.underlying3 hi0 hz0 (some ⟨g, 0, none⟩) i c _ hold kk (by omega) (by omega) (by omega) (by omega) (by rw [hzb]; omega) (by rw [hzb, hik]; exact growslice_fits (by omega) (by omega))
    rw [hik, ← hG] at h
    exact h
  obtain ⟨CL, hCL⟩ : ∃ CL : List Value, CL.toArray = ((l.take i).flatMap enc).toArray ++ Builtin.zeroCells (Value.agg #[.int .i64 0, .int .u64 0, .int .i64 0, .int .i64 0]).cells kk ++ Builtin.zeroCells (Value.agg #[.int .i64 0, .int .u64 0, .int .i64 0, .int .i64 0]).cells (G - n1) := ⟨Array.toList _, rfl⟩
  have hCLl : CL.length = G * 4 := by
    have := congrArg Array.size hCL
    rw [Array.size_append, Array.size_append, size_zeroCells, size_zeroCells] at this
    simp only [List.size_toArray, hTl] at this
    have e : (Value.agg #[.int .i64 0, .int .u64 0, .int .i64 0, .int .i64 0]).cells.size = 4 := rfl
    rw [e] at this
    omega
  have hCLt : CL.take (i * 4) = (l.take i).flatMap enc := by
    have := congrArg Array.toList hCL
    rw [Array.toList_append, Array.toList_append, List.append_assoc] at this
    simp only [] at this
    rw [this, ← hTl]
    exact List.take_left
  rw [← hCL] at hrz
  have HF := Lib.hid (splice_grow CL _ (enc x) _ (i * 4) _ hCLt rfl hD (by omega))
  have HGN := Lib.hid (show (w.alloc (.cells CL.toArray 62)).drew.heap[w.heap.size]? = some (.cells CL.toArray 62 (0, 0)) from heap_alloc_new w (.cells CL.toArray 62))
  have HB0 := Lib.hid (show Below w.heap.size w (w.alloc (.cells CL.toArray 62)).drew from (Bx.box_below w _).drew)
  have HVS := Lib.hid (show ∀ w' : World, w'.heap[vb]? = w.heap[vb]? → ∀ (j : Nat) (u : Value), (enc x)[j]? = some u → w'.cell? (Addr.add ⟨vb, 0, none⟩ j) = some u from fun w' h j u hu => by
    rw [Addr.add_lit, Nat.zero_add, cell_of_row w' vb j _ _ (0, 0) (h.trans hv)]
    simpa using hu)
  have HSrc := Lib.hid (show ∀ w' : World, w'.heap[g]? = w.heap[g]? → ∀ (j : Nat) (u : Value), ((l.drop i).flatMap enc)[j]? = some u → w'.cell? (Addr.add ⟨g, i * 4, none⟩ j) = some u from fun w' h j u hu => (World.cell?_of_block (w := w) (w' := w') (a := Addr.add ⟨g, i * 4, none⟩ j) (by rw [Addr.add_lit]; exact h)).trans (hsrcD j u hu))
  have HL := Lib.hid (show (l.take i ++ x :: l.drop i).length = l.length + 1 by simp; omega)
  have HI := Lib.hid (ins_flat l i x)
  have HD := Lib.hid hD
  have HDo := Lib.hid (enc_one (l.drop i))
  have HXo := Lib.hid (show ∀ u ∈ enc x, u.oneCell' = true from fun u hu => enc_one [x] u (by simpa using hu))
  have HXl := Lib.hid (show (enc x).length = 1 * 4 from rfl)
  have HCL := Lib.hid hCLl
  clear hsrcD hsrcT hT hTl hold htk hown hv hg hD hi0 hz0 hzs hzb hcs hcl hCL hCLl hCLt hG
  generalize (l.drop i).flatMap enc = D at *
  generalize (l.take i).flatMap enc = T at *
  generalize (l.take i ++ x :: l.drop i) = L at *
  generalize l.length = n at *
  have hw1 : IntKind.i64.wrap ((i : Int) + 1) = (j : Int) := by rw [IntKind.wrap_i64]; omega
  have hw2 : IntKind.i64.wrap ((n : Int) + 1) = (n1 : Int) := by rw [IntKind.wrap_i64]; omega
  have hw3 : IntKind.i64.wrap ((n1 : Int) - (i : Int)) = (kk : Int) := by rw [IntKind.wrap_i64]; omega
  have c1 : (i : Int) ≤ (n : Int) := by omega
  have c2 : ¬ ((i : Int) = (n : Int)) := by omega
  have c3 : (c : Int) < (n1 : Int) := by omega
  have c4 : (i : Int) ≤ (c : Int) := by omega
  have c5 : (j : Int) ≤ (n1 : Int) := by omega
  have c6 : ¬ (G = j) := by omega
  have c7 : (i : Int) ≤ (n1 : Int) := by omega
  have c8 : ¬ (c = i) := by omega
  have c9 : ¬ (G = i) := by omega
  have HM1 := Lib.hid (show n - i = Nat.min (n - i) (n1 - j) by show n - i = min (n - i) (n1 - j); omega)
  have HM2 := Lib.hid (show 1 = Nat.min 1 (n1 - i) by show 1 = min 1 (n1 - i); omega)
  have HJ := Lib.hid (show j * 4 = i * 4 + 4 by omega)
  have HF1 := Lib.hid (show i * 4 + (enc x).length ≤ CL.length by rw [HXl.out, HCL.out]; omega)
  have HF2 := Lib.hid (show j * 4 + D.length ≤ (splice CL (i * 4) (enc x)).length by rw [length_splice _ _ _ HF1.out, HCL.out, HD.out]; omega)
  have HN := Lib.hid (show n1 * 4 = i * 4 + 4 + (n - i) * 4 by omega)
  have HNL := Lib.hid hn
  have HGn := Lib.hid hGn
  have hGm' : G ≤ 9223372036854775807 := hGm
  have HP := Lib.hid (show g ≠ w.heap.size ∧ vb ≠ w.heap.size by omega)
  have HG1 := Lib.hid (HB0.out.block g hgl)
  have HV1 := Lib.hid (HB0.out.block vb hvl)
  clear hj hn hl hi hroom hk hik hGn h4
  go_enter Tryd.func76, Tryd.ntmps76
  go_wp2_with (first
    | (at_builtin; refine Lib.wpList_append_run _ rfl _ _ _ _ rfl _ _ rfl rfl _ _ (hrz _) ?_)
    | (with_reducible refine Ck.wpList_copy_k (o := ⟨some 45, _, _, _, _, _⟩) rfl (.tmp 43) (.tmp 44) 22 22 rfl 4 62 Tryd.underlying22 hsz (some ⟨w.heap.size, i * 4, none⟩) (some ⟨vb, 0, none⟩) (n1 - i) (G - i) 1 1 rfl rfl w.heap.size (i * 4) CL 62 HGN.out (enc x) 1 HM2.out HXl.out (fun _ => ⟨rfl, _, rfl, HVS.out _ HV1.out⟩) HF1.out HXo.out w.heap.size w HB0.out (Nat.le_refl _) ?_))
  intro w2 h2 b2 s2 z2
  have HG2 := Lib.hid ((s2.out g HP.out.1).trans HG1.out)
  have HB2 := Lib.hid b2.out.drew
  go_wp2
  go_region_law (refine Ck.step_copy_k rfl (.tmp 50) (.tmp 53) 22 22 rfl 4 62 Tryd.underlying22 hsz (some ⟨w.heap.size, j * 4, none⟩) (some ⟨g, i * 4, none⟩) (n1 - j) (G - j) (n - i) (c - i) (by simp [Act.eval, Act.put]) (by simp [Act.eval, Act.put]) w.heap.size (j * 4) (splice CL (i * 4) (enc x)) 62 h2.out D (n - i) HM1.out HD.out (fun _ => ⟨rfl, _, rfl, HSrc.out _ HG2.out⟩) HF2.out HDo.out w.heap.size w HB2.out (Nat.le_refl _) ?_; intro w3 h3 b3 s3 z3)
  have HLn : L.length = n1 := by rw [HL.out, HNL.out]
  have HTk : (splice (splice CL (i * 4) (enc x)) (j * 4) D).take (n1 * 4) = L.flatMap enc := by
    rw [HJ.out, HN.out, HI.out]
    exact HF.out
  have HSz : (splice (splice CL (i * 4) (enc x)) (j * 4) D).length = G * 4 := by rw [length_splice _ _ _ HF2.out, length_splice _ _ _ HF1.out, HCL.out]
  have HOwn := Lib.hid (show w3.ownsRow base 62 4 (.slice (some ⟨w.heap.size, 0, none⟩) L.length G) L.length (L.flatMap enc) from
    ⟨enc_length L, .inr ⟨w.heap.size, G, _, rfl, hbase, h3.out, by have := HGn.out; omega, hGm, by simpa using HSz, by rw [HLn]; simpa using HTk⟩⟩)
  have HGr := Lib.hid (show w.grownBy w3 (some g) from ⟨b3.out.os, b3.out.tape, b3.out.output, b3.out.size, fun k hk _ => b3.out.block k hk⟩)
  have HR := Lib.hid HLn
  clear HLn HTk HSz
  go_wp2
  go_ret
  exact ⟨some ⟨w.heap.size, 0, none⟩, G, by rw [HR.out]; rfl, HOwn.out, HGr.out⟩

/-- slices.Insert of one entry, at any place. -/
theorem insert_any (base : Nat) (l : List En) (hl : l.length ≤ 100000) (i : Nat) (hi : i ≤ l.length) (x : En) (B : Option Addr) (c vb : Nat) (w : World) (hbase : base ≤ w.heap.size) (hne : ∀ g, B = some ⟨g, 0, none⟩ → vb ≠ g)
    (hown : w.ownsRow base 62 4 (.slice B l.length c) l.length (l.flatMap enc)) (hv : w.heap[vb]? = some (.cells (enc x).toArray 62 (0, 0))) :
    Calls Tryd.prog 76 #[.slice B l.length c, .int .i64 i, .slice (some ⟨vb, 0, none⟩) 1 1] w (InsG base (l.take i ++ x :: l.drop i) (Value.slice B l.length c).ownBlock w) := by
  by_cases h : i = l.length
  · subst h
    rw [List.take_length, List.drop_length]
    exact ins_end base l hl x B c vb w hbase hown hv
  · rcases hown.2 with ⟨h1, h0⟩ | ⟨g, cap, cur, h1, _⟩
    · omega
    · injection h1 with e1 _ _
      subst e1
      by_cases hroom : l.length + 1 ≤ c
      · exact ins_shift base l hl i (by omega) x g c vb w hroom (hne g rfl) hown hv
      · exact ins_grow base l hl i (by omega) x g c vb w hbase (by omega) hown hv

end Tab
end Go.Proofs.YtmojegnflcokjaaDoor
