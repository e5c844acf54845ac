/-
  What keyed's functions and the document's own answer: Block, Sum, Pieces, Fits; and that they change nothing that was there.
-/
import Derived.Test.YtaeeonohakkgbaaDoorKeyA
import Derived.Test.YtaeeonohakkgbaaDoorDigJ
import Derived.Test.YtaeeonohakkgbaaDoorOctRef
namespace Go.Proofs.YtaeeonohakkgbaaDoor
open Go.RowKit
namespace Key
open Oct Fr Dig

/-- The digest of a text. -/
def sumS (s : ByteArray) : ByteArray := ⟨(sumL s.data.toList).toArray⟩
/-- A key as a whole block. -/
def blockS (k : ByteArray) : ByteArray := padS (if 64 < k.size then sumS k else k) 64
/-- The digest with a key. -/
def keyS (k s : ByteArray) : ByteArray := sumS (maskS 92 (blockS k) ++ sumS (maskS 54 (blockS k) ++ s))
/-- All of l, one behind the other. -/
def catS (xs : List ByteArray) : ByteArray := ⟨(xs.map (·.data.toList)).flatten.toArray⟩

theorem sumS_size (s : ByteArray) : (sumS s).size = 16 := by
  show (sumL s.data.toList).toArray.size = 16
  unfold sumL outL
  simp [lowL_length]

theorem padS_size (s : ByteArray) (h : s.size ≤ 64) : (padS s 64).size = 64 := by
  unfold padS
  rw [ByteArray.size_append]
  show s.size + (List.replicate _ _).toArray.size = 64
  rw [List.size_toArray, List.length_replicate]
  omega

theorem blockS_size (k : ByteArray) : (blockS k).size = 64 := by
  unfold blockS
  split
  · exact padS_size _ (by rw [sumS_size]; omega)
  · exact padS_size _ (by omega)

theorem catS_none : catS [] = ⟨#[]⟩ := rfl

theorem catS_one (s : ByteArray) : catS [s] = s := by
  apply ByteArray.ext
  simp [catS]

theorem catS_two (s t : ByteArray) : catS [s, t] = s ++ t := by
  apply ByteArray.ext
  simp [catS]

theorem catS_snoc (xs : List ByteArray) (s : ByteArray) : catS (xs ++ [s]) = catS xs ++ s := by
  apply ByteArray.ext
  simp [catS]

theorem catS_take (xs : List ByteArray) (k : Nat) (h : k < xs.length) : catS (xs.take (k + 1)) = catS (xs.take k) ++ xs[k] := by
  rw [List.take_succ_eq_append_getElem h, catS_snoc]

theorem catS_size (xs : List ByteArray) : (catS xs).size = (xs.map (·.data.toList)).flatten.length := by
  show (xs.map (·.data.toList)).flatten.toArray.size = _
  rw [List.size_toArray]

theorem catS_le (xs : List ByteArray) (k : Nat) : (catS (xs.take k)).size ≤ (catS xs).size := by
  rw [catS_size, catS_size]
  conv => rhs; rw [← List.take_append_drop k xs]
  rw [List.map_append, List.flatten_append, List.length_append]
  exact Nat.le_add_right _ _

theorem join_cat (ls : List (List UInt8)) : Lib.join ls [] = ls.flatten := by
  cases ls with
  | nil => rfl
  | cons x r =>
    rw [Lib.join_cons]
    unfold Lib.joinTail
    simp

/-- The texts xs lie in block g from its head on. -/
def Texts (w : World) (g : Nat) (xs : List ByteArray) : Prop := g < w.heap.size ∧ ∀ (j : Nat) x, xs[j]? = some x → w.cell? ⟨g, j, none⟩ = some (.string x)

theorem Texts.below {w w' : World} {g : Nat} {xs : List ByteArray} (h : Texts w g xs) (hb : Below w.heap.size w w') : Texts w' g xs :=
  ⟨Nat.lt_of_lt_of_le h.1 hb.size, fun j x hj => by rw [hb.cell (p := ⟨g, j, none⟩) h.1]; exact h.2 j x hj⟩

theorem Texts.new (w : World) (xs : List ByteArray) (t : TypeId) : Texts (w.alloc (.cells (xs.map Value.string).toArray t)) w.heap.size xs := by
  refine ⟨by simp, fun j x hj => ?_⟩
  rw [World.cell?_alloc_new]
  simp [hj]

theorem dsum_any (s : ByteArray) (w : World) (hs : s.size ≤ 1048576) (hm : Home w) :
    Calls Tryd.prog 31 #[.string s] w fun e w' => e = .returned (.string (sumS s)) ∧ Below w.heap.size w w' := sum_any s w hs hm

theorem drsum_any (s : ByteArray) (w : World) (hs : s.size ≤ 1048576) :
    Calls Tryd.prog 32 #[.string s] w fun e w' => e = .returned (.string (sumS s)) ∧ Below w.heap.size w w' := Dig.rsum_any s w hs

set_option maxRecDepth 20000 in
theorem kblock_any (k : ByteArray) (w : World) (hk : k.size ≤ 1048576) (hm : Home w) :
    Calls Tryd.prog 67 #[.string k] w fun e w' => e = .returned (.string (blockS k)) ∧ Below w.heap.size w w' := by
  by_cases h : 64 < k.size
  · have q : decide (64 < (k.size : Int)) = true := by simp; omega
    have e1 : blockS k = padS (sumS k) 64 := by unfold blockS; rw [if_pos h]
    rw [e1]; clear e1
    have HS := Lib.hid (dsum_any k w hk hm)
    have HP := Lib.hid (fun w => pad_any (sumS k) 64 w (by rw [sumS_size]; omega))
    generalize sumS k = S at *
    generalize padS S 64 = R at *
    clear hm
    go_enter Tryd.func67, Tryd.ntmps67
    go_wp2_with fail
    refine HS.out.mono ?_; rintro e w1 ⟨rfl, hb1⟩
    have H1 := Lib.hid hb1; clear hb1
    go_wp2_with fail
    refine (HP.out _).mono ?_; rintro e w2 ⟨rfl, hb2⟩
    have H2 := Lib.hid (Bx.then_below H1.out hb2); clear hb2
    go_wp2_with fail
    go_ret
    exact ⟨rfl, H2.out⟩
  · have q : decide (64 < (k.size : Int)) = false := by simp; omega
    have e1 : blockS k = padS k 64 := by unfold blockS; rw [if_neg h]
    rw [e1]; clear e1
    have HP := Lib.hid (fun w => pad_any k 64 w hk)
    generalize padS k 64 = R at *
    clear hm
    go_enter Tryd.func67, Tryd.ntmps67
    go_wp2_with fail
    refine (HP.out _).mono ?_; rintro e w2 ⟨rfl, hb2⟩
    go_wp2_with fail
    go_ret
    exact ⟨rfl, hb2⟩

theorem rkblock_any (k : ByteArray) (w : World) (hk : k.size ≤ 1048576) :
    Calls Tryd.prog 49 #[.string k] w fun e w' => e = .returned (.string (blockS k)) ∧ Below w.heap.size w w' := by
  by_cases h : 64 < k.size
  · have q : decide (64 < (k.size : Int)) = true := by simp; omega
    have e1 : blockS k = padS (sumS k) 64 := by unfold blockS; rw [if_pos h]
    rw [e1]; clear e1
    have HS := Lib.hid (drsum_any k w hk)
    have HP := Lib.hid (fun w => Oct.rpad_any (sumS k) 64 w (by rw [sumS_size]; omega))
    generalize sumS k = S at *
    generalize padS S 64 = R at *

    go_enter Tryd.func49, Tryd.ntmps49
    go_wp2_with fail
    refine HS.out.mono ?_; rintro e w1 ⟨rfl, hb1⟩
    have H1 := Lib.hid hb1; clear hb1
    go_wp2_with fail
    refine (HP.out _).mono ?_; rintro e w2 ⟨rfl, hb2⟩
    have H2 := Lib.hid (Bx.then_below H1.out hb2); clear hb2
    go_wp2_with fail
    go_ret
    exact ⟨rfl, H2.out⟩
  · have q : decide (64 < (k.size : Int)) = false := by simp; omega
    have e1 : blockS k = padS k 64 := by unfold blockS; rw [if_neg h]
    rw [e1]; clear e1
    have HP := Lib.hid (fun w => Oct.rpad_any k 64 w hk)
    generalize padS k 64 = R at *

    go_enter Tryd.func49, Tryd.ntmps49
    go_wp2_with fail
    refine (HP.out _).mono ?_; rintro e w2 ⟨rfl, hb2⟩
    go_wp2_with fail
    go_ret
    exact ⟨rfl, hb2⟩

set_option maxRecDepth 20000 in
set_option maxHeartbeats 400000 in
theorem pieces_any (k : ByteArray) (xs : List ByteArray) (g : Nat) (w : World) (hk : k.size ≤ 1048576) (hx : (catS xs).size ≤ 1000000) (hn : xs.length ≤ 1000) (ht : Texts w g xs) (hm : Home w) :
    Calls Tryd.prog 46 #[.string k, .slice (some ⟨g, 0, none⟩) xs.length xs.length] w fun e w' => e = .returned (.string (keyS k (catS xs))) ∧ Below w.heap.size w w' := by
  have HB := Lib.hid (fun w hm => kblock_any k w hk hm)
  have HI := Lib.hid (fun w => masked_any (blockS k) 54 54 rfl w (by rw [blockS_size]; omega))
  have HO := Lib.hid (fun w => masked_any (blockS k) 92 92 rfl w (by rw [blockS_size]; omega))
  have z1 : (maskS 54 (blockS k)).size = 64 := by rw [maskS_size, blockS_size]
  have z2 : (maskS 92 (blockS k)).size = 64 := by rw [maskS_size, blockS_size]
  have e1 : keyS k (catS xs) = sumS (maskS 92 (blockS k) ++ sumS (maskS 54 (blockS k) ++ (catS xs))) := rfl
  rw [e1]; clear e1
  generalize blockS k = B at *
  generalize maskS 54 B = M1 at *
  generalize maskS 92 B = M2 at *
  have HJ : Hid (∀ wr : World, Texts wr g xs → Calls Tryd.prog 69 #[.slice (some ⟨g, 0, none⟩) xs.length xs.length, .string ⟨#[]⟩] wr fun e w' => e = .returned (.string (catS xs)) ∧ Below wr.heap.size wr w') := by
    intro wr hr
    have hj := Tryd.strings_Join g 0 xs.length xs ⟨#[]⟩ wr
    rw [show (⟨#[]⟩ : ByteArray).data.toList = [] from rfl, join_cat] at hj
    refine hj (fun j x hjx => by rw [Nat.zero_add]; exact hr.2 j x hjx) hr.1 (by omega) (Nat.le_refl _) ?_
    have := catS_size xs
    omega
  generalize catS xs = C at *
  have HS1 := Lib.hid (fun w hm => dsum_any (M1 ++ C) w (by rw [ByteArray.size_append]; omega) hm)
  have z3 : (sumS (M1 ++ C)).size = 16 := sumS_size _
  generalize sumS (M1 ++ C) = I at *
  have HS2 := Lib.hid (fun w hm => dsum_any (M2 ++ I) w (by rw [ByteArray.size_append]; omega) hm)
  generalize sumS (M2 ++ I) = R at *
  generalize xs.length = n at *
  have HM := Lib.hid hm
  have HT := Lib.hid ht
  have z4 : ¬ (64 + C.size > 9223372036854775807) := by omega
  clear hm ht hk hx hn
  go_enter Tryd.func46, Tryd.ntmps46
  go_wp2_with fail
  refine (HB.out _ HM.out).mono ?_; rintro e w1 ⟨rfl, hb1⟩
  have H1 := Lib.hid hb1; clear hb1
  go_wp2_with fail
  refine (HI.out _).mono ?_; rintro e w2 ⟨rfl, hb2⟩
  have H2 := Lib.hid (Bx.then_below H1.out hb2); clear hb2
  go_wp2_with fail
  refine (HJ.out _ (HT.out.below H2.out)).mono ?_; rintro e w3 ⟨rfl, hb3⟩
  have H3 := Lib.hid (Bx.then_below H2.out hb3); clear hb3
  go_wp2_with fail
  refine (HS1.out _ (HM.out.below H3.out)).mono ?_; rintro e w4 ⟨rfl, hb4⟩
  have H4 := Lib.hid (Bx.then_below H3.out hb4); clear hb4
  go_wp2_with fail
  refine (HO.out _).mono ?_; rintro e w5 ⟨rfl, hb5⟩
  have H5 := Lib.hid (Bx.then_below H4.out hb5); clear hb5
  go_wp2_with fail
  refine (HS2.out _ (HM.out.below H5.out)).mono ?_; rintro e w6 ⟨rfl, hb6⟩
  have H6 := Lib.hid (Bx.then_below H5.out hb6); clear hb6
  go_wp2_with fail
  go_ret
  exact ⟨rfl, H6.out⟩

/-- Pieces of a row of texts that the caller has just made. -/
theorem pieces_new (k : ByteArray) (xs : List ByteArray) (w : World) (hk : k.size ≤ 1048576) (hx : (catS xs).size ≤ 1000000) (hn : xs.length ≤ 1000) (hm : Home w) :
    Calls Tryd.prog 46 #[.string k, .slice (some ⟨w.heap.size, 0, none⟩) xs.length xs.length] (w.alloc (.cells (xs.map Value.string).toArray 9)) fun e w' => e = .returned (.string (keyS k (catS xs))) ∧ Below w.heap.size w w' :=
  (pieces_any k xs w.heap.size _ hk hx hn (Texts.new w xs 9) (hm.below (Bx.box_below _ _))).mono fun _ _ ⟨h1, h2⟩ => ⟨h1, Bx.then_below (Bx.box_below _ _) h2⟩

set_option maxRecDepth 20000 in
theorem ksum_any (k s : ByteArray) (w : World) (hk : k.size ≤ 1048576) (hs : s.size ≤ 1000000) (hm : Home w) :
    Calls Tryd.prog 25 #[.string k, .string s] w fun e w' => e = .returned (.string (keyS k s)) ∧ Below w.heap.size w w' := by
  have HP := Lib.hid (pieces_new k [s] w hk (by rw [catS_one]; exact hs) (by simp) hm)
  rw [catS_one] at HP
  change Hid (Calls _ _ #[.string k, .slice (some ⟨w.heap.size, 0, none⟩) 1 1] (w.alloc (.cells #[.string s] 9)) _) at HP
  generalize keyS k s = R at *
  clear hm hk hs
  go_enter Tryd.func25, Tryd.ntmps25
  go_wp2_with fail
  refine HP.out.mono ?_; rintro e w1 ⟨rfl, hb1⟩
  go_wp2_with fail
  go_ret
  exact ⟨rfl, hb1⟩

set_option maxRecDepth 20000 in
set_option maxHeartbeats 400000 in
theorem rksum_any (k s : ByteArray) (w : World) (hk : k.size ≤ 1048576) (hs : s.size ≤ 1000000) :
    Calls Tryd.prog 29 #[.string k, .string s] w fun e w' => e = .returned (.string (keyS k s)) ∧ Below w.heap.size w w' := by
  have HB := Lib.hid (fun w => rkblock_any k w hk)
  have HI := Lib.hid (fun w => with_any (blockS k) 54 54 rfl w (by rw [blockS_size]; omega))
  have HO := Lib.hid (fun w => with_any (blockS k) 92 92 rfl w (by rw [blockS_size]; omega))
  have z1 : (maskS 54 (blockS k)).size = 64 := by rw [maskS_size, blockS_size]
  have z2 : (maskS 92 (blockS k)).size = 64 := by rw [maskS_size, blockS_size]
  have e1 : keyS k s = sumS (maskS 92 (blockS k) ++ sumS (maskS 54 (blockS k) ++ s)) := rfl
  rw [e1]; clear e1
  generalize blockS k = B at *
  generalize maskS 54 B = M1 at *
  generalize maskS 92 B = M2 at *
  have HS1 := Lib.hid (fun w => drsum_any (M1 ++ s) w (by rw [ByteArray.size_append]; omega))
  have z3 : (sumS (M1 ++ s)).size = 16 := sumS_size _
  generalize sumS (M1 ++ s) = I at *
  have HS2 := Lib.hid (fun w => drsum_any (M2 ++ I) w (by rw [ByteArray.size_append]; omega))
  generalize sumS (M2 ++ I) = R at *
  have z4 : ¬ (64 + s.size > 9223372036854775807) := by omega
  clear hk hs
  go_enter Tryd.func29, Tryd.ntmps29
  go_wp2_with fail
  refine (HB.out _).mono ?_; rintro e w1 ⟨rfl, hb1⟩
  have H1 := Lib.hid hb1; clear hb1
  go_wp2_with fail
  refine (HO.out _).mono ?_; rintro e w2 ⟨rfl, hb2⟩
  have H2 := Lib.hid (Bx.then_below H1.out hb2); clear hb2
  go_wp2_with fail
  refine (HI.out _).mono ?_; rintro e w3 ⟨rfl, hb3⟩
  have H3 := Lib.hid (Bx.then_below H2.out hb3); clear hb3
  go_wp2_with fail
  refine (HS1.out _).mono ?_; rintro e w4 ⟨rfl, hb4⟩
  have H4 := Lib.hid (Bx.then_below H3.out hb4); clear hb4
  go_wp2_with fail
  refine (HS2.out _).mono ?_; rintro e w5 ⟨rfl, hb5⟩
  have H5 := Lib.hid (Bx.then_below H4.out hb5); clear hb5
  go_wp2_with fail
  go_ret
  exact ⟨rfl, H5.out⟩

end Key
end Go.Proofs.YtaeeonohakkgbaaDoor
