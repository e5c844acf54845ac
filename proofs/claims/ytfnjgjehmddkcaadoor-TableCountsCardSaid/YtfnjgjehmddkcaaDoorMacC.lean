/-
  What mac.Text and the document's Text answer: two digits of each byte, a colon between; and that they change nothing that was there.
-/
import Derived.Test.YtfnjgjehmddkcaaDoorMacB
import Derived.Test.YtfnjgjehmddkcaaDoorRow
import Derived.Test.YtfnjgjehmddkcaaDoorShelf
namespace Go.Proofs.YtfnjgjehmddkcaaDoor
open Go.RowKit
namespace Mac
open Oct Fr

theorem info_str : (Tryd.prog.info? 9).map (fun i => (i.zero, i.size, i.bytes)) = some (some (.string ByteArray.empty), 1, 16) := by kernel_rfl

theorem made_strs (k : Nat) : (madeCells #[Value.string ByteArray.empty] k).toList = List.replicate k (.string ByteArray.empty) := by
  apply List.ext_getElem
  · simp [madeCells]
  · intro i h1 h2
    simp [madeCells, Nat.mod_one]

/-- The text of an address. -/
def txtS (m : Nat) : ByteArray := ⟨(txt (putL m 6)).toArray⟩

/-- The parts that stand behind k rounds. -/
def partsV (x : List UInt8) (k : Nat) : List Value := (x.take k).map (fun b => Value.string ⟨(hexL [b]).toArray⟩) ++ List.replicate (6 - k) (.string ByteArray.empty)

theorem partsV_set (x : List UInt8) (hx : x.length = 6) (k : Nat) (hk : k < 6) (b : UInt8) (hb : x[k]? = some b) :
    (partsV x k).set k (.string ⟨(hexL [b]).toArray⟩) = partsV x (k + 1) := by
  unfold partsV
  rw [List.set_append_right _ _ (by simp; omega), show 6 - k = (6 - (k + 1)) + 1 by omega, List.replicate_succ]
  have hl : k - ((x.take k).map (fun b => Value.string ⟨(hexL [b]).toArray⟩)).length = 0 := by simp; omega
  rw [hl, List.set_cons_zero, List.take_add_one, hb]
  simp

theorem partsV_at (x : List UInt8) (hx : x.length = 6) (k : Nat) (hk : k < 6) : (partsV x k)[k]? = some (.string ByteArray.empty) := by
  unfold partsV
  have hl : ((x.take k).map (fun b => Value.string ⟨(hexL [b]).toArray⟩)).length = k := by simp; omega
  rw [List.getElem?_append_right (by omega), hl, Nat.sub_self, List.getElem?_replicate, if_pos (by omega)]

theorem byte_at (x : List UInt8) (k : Nat) (hk : k < x.length) : ((⟨x.toArray⟩ : ByteArray).extract k (k + 1)).data.toList = [x[k]] := by
  rw [ByteArray.data_extract, Array.toList_extract]
  simp only [List.extract]
  rw [show k + 1 - k = 1 by omega, List.drop_eq_getElem_cons hk]
  rfl

set_option maxRecDepth 40000 in
set_option maxHeartbeats 400000 in
theorem text_any (m : Nat) (hm : m < 18446744073709551616) (w : World) : Calls Tryd.prog 26 #[.int .u64 m] w fun e w' => e = .returned (.string (txtS m)) ∧ Below w.heap.size w w' := by
  obtain ⟨i0, hi, hz0, hz1, hz2⟩ := info_parts info_str
  have hx := putL_length m 6
  unfold txtS
  have HB := Lib.hid (fun w => bytes_any m hm w)
  generalize putL m 6 = x at *
  clear hm
  have hs : (⟨x.toArray⟩ : ByteArray).size = 6 := by simpa [ByteArray.size] using hx
  have HX := Lib.hid hx
  clear hx
  go_enter Tryd.func26, Tryd.ntmps26
  go_wp2_with fail
  refine (HB.out _).mono ?_; rintro e w1 ⟨rfl, hb1⟩
  have HB1 := Lib.hid hb1
  clear hb1
  have HS := Lib.hid hs
  generalize hbs : (⟨x.toArray⟩ : ByteArray) = b at *
  have HBS := Lib.hid hbs
  clear hbs
  go_wp2_with (at_make; refine wpList_make_full _ rfl (.tmp 9) (.tmp 9) 77 rfl w1.heap.size 9 i0 (.string ByteArray.empty) 1 Tryd.underlying77 hi hz0 hz1 .i64 .i64 _ _ 6 rfl rfl ?h1 ?h2 ?h3 ?h4 (Nat.le_refl _) ?_)
  case h3 => rw [hz2]; omega
  case h4 => unfold maxLen; omega
  case h1 => rfl
  case h2 => rfl
  rw [made_strs]
  intro w2 hown hgrow
  have HR := Lib.hid (Row.of_owns hown)
  have HG := Lib.hid hgrow
  clear hown hgrow
  go_wp2
  go_loopw [13] (fun i wr => ∃ k : Nat, k ≤ 6 ∧ i = .int .i64 k ∧ Row wr w1.heap.size (partsV x k) ∧ Below w.heap.size w wr) (fun i _ => 6 - (intOf i).toNat)
  case atStart => exact ⟨0, by omega, rfl, HR.out, HB1.out.grown HG.out HB1.out.size (by simp)⟩
  case round =>
    obtain ⟨k, hk, rfl, hR, hB⟩ := hrel
    by_cases hlt : k < 6
    · have hlx : k < x.length := by have := HX.out; omega
      have hby := byte_at x k hlx
      rw [HBS.out] at hby
      have HH := Lib.hid (fun w => hex_any (b.extract k (k + 1)) w (by simp; omega))
      rw [hby] at HH
      clear hby
      have HP := Lib.hid (partsV_set x HX.out k hlt x[k] (by simp))
      have HA := Lib.hid (partsV_at x HX.out k hlt)
      have HZ := Lib.hid (And.intro hR hB)
      clear hR hB
      go_wp2_with fail
      refine (HH.out _).mono ?_; rintro e w3 ⟨rfl, hb3⟩
      have HR3 := Lib.hid (HZ.out.1.below hb3)
      have HB3 := Lib.hid (below_then HZ.out.2 hb3)
      have hcl := HR3.out.cell HA.out
      have hfz := HR3.out.frozen HA.out
      clear hb3
      go_wp2
      go_roundw
      case rel =>
        refine ⟨k + 1, by omega, by go_num, ?_, ?_⟩
        · have := HR3.out.setCell k (.string ⟨(hexL [x[k]]).toArray⟩)
          rw [HP.out] at this
          exact this
        · exact HB3.out.setCell (p := ⟨w1.heap.size, k, none⟩) HB1.out.size _
      case measure => simp [intOf]; omega
    · have hk6 : k = 6 := by omega
      subst hk6
      have HJ : Hid (∀ wr : World, Row wr w1.heap.size (partsV x 6) → Calls Tryd.prog 51 #[.slice (some ⟨w1.heap.size, 0, none⟩) 6 6, .string ⟨#[58]⟩] wr fun e w' => e = .returned (.string ⟨(txt x).toArray⟩) ∧ Below wr.heap.size wr w') := by
        intro wr hr
        have hx6 := HX.out
        have hj := Tryd.strings_Join w1.heap.size 0 6 (x.map fun b => ⟨(hexL [b]).toArray⟩) ⟨#[58]⟩ wr
        have e1 : (x.map fun b => (⟨(hexL [b]).toArray⟩ : ByteArray)).length = 6 := by simp [hx6]
        have e2 : (x.map fun b => (⟨(hexL [b]).toArray⟩ : ByteArray)).map (·.data.toList) = x.map fun b => hexL [b] := by simp
        rw [e1, e2, show (⟨#[58]⟩ : ByteArray).data.toList = [58] from rfl, txt_join] at hj
        refine hj ?_ hr.1 (by omega) (by omega) (by rw [txt_length6 x hx6]; omega)
        intro j y hy
        rw [Nat.zero_add]
        refine hr.cell ?_
        unfold partsV
        rw [List.take_of_length_le (by omega), Nat.sub_self, List.replicate_zero, List.append_nil]
        simp at hy ⊢
        obtain ⟨a, ha, rfl⟩ := hy
        exact ⟨a, ha, rfl⟩
      have HZ := Lib.hid (And.intro hR hB)
      clear hR hB
      go_wp2_with fail
      refine (HJ.out _ HZ.out.1).mono ?_; rintro e w3 ⟨rfl, hb3⟩
      go_wp2_with fail
      go_ret
      exact ⟨rfl, below_then HZ.out.2 hb3⟩

end Mac
end Go.Proofs.YtfnjgjehmddkcaaDoor
