/-
  What digest.wordsOf answers: the sixteen words of a text of 64 bytes, the lowest byte first.
-/
import Derived.Test.YtanfmghfmmhglaaDoorDigC
import Derived.Test.YtanfmghfmmhglaaDoorWhole
import Derived.Test.YtanfmghfmmhglaaDoorRow
import Derived.StillTailTactics
namespace Go.Proofs.YtanfmghfmmhglaaDoor
open Go.RowKit
namespace Dig
open Fr

/-- A byte of a text, if it stands ahead of i; else 0. -/
def upB (l : List UInt8) (i k : Nat) : Nat := if k < i then byteAt l k else 0

/-- The word j, of what stands ahead of i. -/
def upW (l : List UInt8) (i j : Nat) : Nat := upB l i (4 * j) + 256 * upB l i (4 * j + 1) + 65536 * upB l i (4 * j + 2) + 16777216 * upB l i (4 * j + 3)

def upL (l : List UInt8) (i : Nat) : List Value := (List.range 16).map fun j => .int .u32 (upW l i j : Nat)

theorem byteAt_lt (l : List UInt8) (k : Nat) : byteAt l k < 256 := by unfold byteAt; exact (l.getD k 0).toNat_lt

theorem upW_none (l : List UInt8) (i j : Nat) (h : i ≤ 4 * j) : upW l i j = 0 := by
  unfold upW upB
  rw [if_neg (by omega), if_neg (by omega), if_neg (by omega), if_neg (by omega)]

theorem upW_all (l : List UInt8) (i j : Nat) (h : 4 * j + 4 ≤ i) : upW l i j = wordN l j := by
  unfold upW upB wordN
  rw [if_pos (by omega), if_pos (by omega), if_pos (by omega), if_pos (by omega)]

theorem upW_other (l : List UInt8) (i j : Nat) (h : i / 4 ≠ j) : upW l (i + 1) j = upW l i j := by
  by_cases h1 : i < 4 * j
  · rw [upW_none _ _ _ (by omega), upW_none _ _ _ (by omega)]
  · rw [upW_all _ _ _ (by omega), upW_all _ _ _ (by omega)]

theorem upL_zero (l : List UInt8) : upL l 0 = List.replicate 16 (.int .u32 0) := by
  unfold upL
  rw [List.map_congr_left (g := fun _ => Value.int .u32 0) (fun j _ => by rw [upW_none _ _ _ (by omega)]; rfl), List.map_const', List.length_range]

theorem upL_at (l : List UInt8) (i j : Nat) (h : j < 16) : (upL l i)[j]? = some (.int .u32 (upW l i j : Nat)) := by simp [upL, h]

theorem upL_next (l : List UInt8) (i : Nat) : (upL l i).set (i / 4) (.int .u32 (upW l (i + 1) (i / 4) : Nat)) = upL l (i + 1) := by
  apply List.ext_getElem?
  intro j
  by_cases hj : j < 16
  · rw [upL_at _ _ _ hj]
    by_cases h : i / 4 = j
    · subst h
      rw [List.getElem?_set_self (by simpa [upL] using hj)]
    · rw [List.getElem?_set_ne h, upL_at _ _ _ hj, upW_other _ _ _ h]
  · rw [List.getElem?_eq_none (by simp [upL]; omega), List.getElem?_eq_none (by simp [upL]; omega)]

theorem upW_lt (l : List UInt8) (i j r : Nat) (h : i = 4 * j + r) (hr : r < 4) : upW l i j < 2 ^ (8 * r) := by
  have h0 := byteAt_lt l (4 * j)
  have h1 := byteAt_lt l (4 * j + 1)
  have h2 := byteAt_lt l (4 * j + 2)
  unfold upW upB
  match r, hr with
  | 0, _ => rw [if_neg (by omega), if_neg (by omega), if_neg (by omega), if_neg (by omega)]; decide
  | 1, _ => rw [if_pos (by omega), if_neg (by omega), if_neg (by omega), if_neg (by omega)]; show _ < 256; omega
  | 2, _ => rw [if_pos (by omega), if_pos (by omega), if_neg (by omega), if_neg (by omega)]; show _ < 65536; omega
  | 3, _ => rw [if_pos (by omega), if_pos (by omega), if_pos (by omega), if_neg (by omega)]; show _ < 16777216; omega

theorem upW_next (l : List UInt8) (i j r : Nat) (h : i = 4 * j + r) (hr : r < 4) : upW l (i + 1) j = upW l i j + 2 ^ (8 * r) * byteAt l i := by
  subst h
  have e : ∀ q, q < 4 → (upB l (4 * j + r + 1) (4 * j + q) = if q ≤ r then byteAt l (4 * j + q) else 0) ∧ (upB l (4 * j + r) (4 * j + q) = if q < r then byteAt l (4 * j + q) else 0) := by
    intro q _
    unfold upB
    constructor
    · by_cases h : q ≤ r
      · rw [if_pos h, if_pos (by omega)]
      · rw [if_neg h, if_neg (by omega)]
    · by_cases h : q < r
      · rw [if_pos h, if_pos (by omega)]
      · rw [if_neg h, if_neg (by omega)]
  have e0 := e 0 (by omega)
  have e1 := e 1 (by omega)
  have e2 := e 2 (by omega)
  have e3 := e 3 (by omega)
  simp only [Nat.add_zero] at e0
  unfold upW
  rw [e0.1, e0.2, e1.1, e1.2, e2.1, e2.2, e3.1, e3.2]
  clear e e0 e1 e2 e3
  match r, hr with
  | 0, _ => simp
  | 1, _ => simp
  | 2, _ => simp
  | 3, _ => simp

theorem own1_apart {W : World} {k k' o : Nat} {l : List Value} {x : Value} (h : Bx.Own W k l) (hne : k ≠ k') : Bx.Own (W.setCell ⟨k', o, none⟩ x) k l :=
  ⟨h.1.other hne, fun j hj => by
    obtain ⟨h1, h2⟩ := h.2 j hj
    refine ⟨?_, by simpa using h2⟩
    rw [Bx.cell_set, if_neg (by omega)]; exact h1⟩

theorem or_right (X b r p : Nat) (hr : r < 4) (hp : p = 2 ^ (8 * r)) (hX : X < 2 ^ (8 * r)) (hb : b < 256) : bits .or .u32 (X : Int) ((b : Int) * p) = ((X + p * b : Nat) : Int) := by
  subst hp
  have := shl_or X b (8 * r) hX hb (by omega)
  simpa using this

theorem or_zero (X b : Nat) (hX : X < 2 ^ (8 * 0)) (hb : b < 256) : bits .or .u32 (X : Int) (b : Int) = ((X + 2 ^ (8 * 0) * b : Nat) : Int) := by
  have := or_right X b 0 1 (by decide) rfl hX hb
  simpa using this

theorem byteAt_get (s : ByteArray) (k : Nat) (hk : k < s.size) : byteAt s.data.toList k = (s[k]).toNat := by
  unfold byteAt
  rw [List.getD_eq_getElem?_getD, List.getElem?_eq_getElem (by simpa using hk)]
  rfl

theorem info_w : (Tryd.prog.info? 73).map (·.size) = some 16 := by kernel_rfl

theorem upL_one (l : List UInt8) (i : Nat) : ∀ v ∈ upL l i, v.oneCell' = true := by simp [upL, Value.oneCell']

theorem Row.blk {W : World} {g : Nat} {l : List Value} (h : Row W g l) : Bx.Blk W g l := fun _ _ hv => h.cell hv

theorem Row.own {W : World} {g : Nat} {l : List Value} (h : Row W g l) : Bx.Own W g l := ⟨Row.blk h, fun j hj => by
  rw [Nat.zero_add]
  have := List.getElem?_eq_getElem hj
  exact ⟨by rw [h.cell this]; rfl, h.frozen this⟩⟩

theorem row_new (W : World) (l : List Value) (t : TypeId) : Row (W.alloc (.cells l.toArray t)) W.heap.size l :=
  ⟨by simp, fun j v hv => ⟨Bx.Blk.new W l t j v hv, by simp [go_sem]⟩⟩

theorem row_new_at {W : World} {k : Nat} (l : List Value) (t : TypeId) (hk : k = W.heap.size) : Row (W.alloc (.cells l.toArray t)) k l := by subst hk; exact row_new W l t

/-- A function's answer that lies in memory: an array. -/
theorem results_arr {P : Program} {fn : Func} {p : Tmp} {T : TypeId} (h : fn.results = #[.cell p T]) {tmps : Array Value} {W : World} {k : Nat} {l : List Value} {d : TypeDesc} (hp : tmps.getD p undef = .pointer (some ⟨k, 0, none⟩))
    (hu : P.underlying T = some d) (hd : d.isRow = true) (hi : (P.info? T).map (·.size) = some l.length) (hB : Bx.Blk W k l) : (results fn tmps).run P W = .ok (.agg l.toArray) W := by
  have hp' : tmps[p]?.getD undef = .pointer (some ⟨k, 0, none⟩) := by simpa using hp
  simp [results, h, hp', asAddr, run_loadVar_mid W k 0 T l d hB.range hu hd hi]

theorem round_row {W : World} {g k j : Nat} {l : List UInt8} {z : Int} (h : Row W g (upL l k)) (hj : k / 4 = j) (hz : z = (upW l (k + 1) j : Nat)) : Row (W.setCell ⟨g, j, none⟩ (.int .u32 z)) g (upL l (k + 1)) := by
  have := h.setCell j (.int .u32 z)
  rw [hz] at this ⊢
  rw [← hj, upL_next] at this
  rw [← hj]
  exact this

set_option maxRecDepth 20000 in
set_option maxHeartbeats 400000 in
theorem words_any (s : ByteArray) (w : World) (hs : s.size = 64) :
    Calls Tryd.prog 50 #[.string s] w fun e w' => e = .returned (.agg (upL s.data.toList 64).toArray) ∧ Below w.heap.size w w' := by
  go_enter Tryd.func50, Tryd.ntmps50
  have HS := Lib.hid hs
  clear hs
  go_wp2
  go_loopw [5] (fun i wr => ∃ k : Nat, k ≤ 64 ∧ i = .int .i64 k ∧ Row wr (w.heap.size + 1) (upL s.data.toList k) ∧ Bx.Own wr w.heap.size (upL s.data.toList 0) ∧ Below w.heap.size w wr) (fun i _ => 64 - (intOf i).toNat)
  case atStart =>
    refine ⟨0, by omega, rfl, ?_, ?_, (Bx.box_below _ _).alloc (by simp) _⟩
    · rw [upL_zero]
      exact row_new_at _ _ (by simp)
    · rw [upL_zero]
      exact (Row.own (row_new w _ 73)).more _
  case round =>
    obtain ⟨k, hk, rfl, ho, hz, hb⟩ := hrel
    by_cases hlt : k < 64
    · have hks : k < s.size := by have := HS.out; omega
      have hcell := ho.cell (upL_at s.data.toList k (k / 4) (by omega))
      have hfz := ho.frozen (upL_at s.data.toList k (k / 4) (by omega))
      have hj1 : k / 4 < 16 := by omega
      have hj2 : ((k / 4 : Nat) : Int) < 16 := by omega
      have hr1 : k % 4 = 0 ∨ k % 4 = 1 ∨ k % 4 = 2 ∨ k % 4 = 3 := by omega
      have q1 : IntKind.i64.wrap ((k : Int) / 4) = ((k / 4 : Nat) : Int) := IntWalk.i64_in _ (by omega)
      have hb8 := s[k].toNat_lt
      have q3 : IntKind.u32.wrap (s[k].toNat : Int) = (s[k].toNat : Int) := by rw [IntKind.wrap_u32']; omega
      have HN := Lib.hid (And.intro (upW_next s.data.toList k (k / 4) (k % 4) (by omega) (by omega)) (upW_lt s.data.toList k (k / 4) (k % 4) (by omega) (by omega)))
      have HO := Lib.hid (And.intro ho (And.intro hz hb))
      clear ho hz hb
      generalize upW s.data.toList k (k / 4) = X at *
      generalize hj : k / 4 = j at *
      have HJ := Lib.hid hj
      clear hj
      have hm : (k : Int).tmod 4 = ((k % 4 : Nat) : Int) := by rw [Int.tmod_eq_emod_of_nonneg (by omega)]; rfl
      rcases hr1 with hr | hr | hr | hr
      · have q4 : IntKind.i64.wrap (8 * (k : Int).tmod 4) = 0 := by rw [hm, hr]; decide
        have q5 : IntKind.u32.wrap ((s[k].toNat : Int) * 1) = (s[k].toNat : Int) * 1 := by rw [IntKind.wrap_u32']; omega
        rw [hr] at HN
        clear hr hm
        go_wp2
        go_still_tail 14, (by kernel_rfl)
        change wpList _ _ _ _ _ wr.drew
        have hc2 : wr.drew.cell? ⟨w.heap.size + 1, j, none⟩ = some (.int .u32 X) := hcell
        have hf2 : wr.drew.frozen? ⟨w.heap.size + 1, j, none⟩ = false := hfz
        have HO2 : Hid (Row wr.drew (w.heap.size + 1) (upL s.data.toList k) ∧ Bx.Own wr.drew w.heap.size (upL s.data.toList 0) ∧ Below w.heap.size w wr.drew) := Lib.hid ⟨HO.out.1, HO.out.2.1, HO.out.2.2.drew⟩
        clear hcell hfz HO
        generalize wr.drew = w2 at *
        go_wp2
        go_roundw
        case rel => exact ⟨k + 1, by omega, by go_num, round_row HO2.out.1 HJ.out (by rw [HN.out.1, byteAt_get s k hks]; exact or_zero X _ HN.out.2 hb8), own1_apart HO2.out.2.1 (by omega), HO2.out.2.2.setCell (by simp) _⟩
        case measure => simp [intOf]; omega
      · have q4 : IntKind.i64.wrap (8 * (k : Int).tmod 4) = 8 := by rw [hm, hr]; decide
        have q5 : IntKind.u32.wrap ((s[k].toNat : Int) * 256) = (s[k].toNat : Int) * 256 := by rw [IntKind.wrap_u32']; omega
        rw [hr] at HN
        clear hr hm
        go_wp2
        go_still_tail 14, (by kernel_rfl)
        change wpList _ _ _ _ _ wr.drew
        have hc2 : wr.drew.cell? ⟨w.heap.size + 1, j, none⟩ = some (.int .u32 X) := hcell
        have hf2 : wr.drew.frozen? ⟨w.heap.size + 1, j, none⟩ = false := hfz
        have HO2 : Hid (Row wr.drew (w.heap.size + 1) (upL s.data.toList k) ∧ Bx.Own wr.drew w.heap.size (upL s.data.toList 0) ∧ Below w.heap.size w wr.drew) := Lib.hid ⟨HO.out.1, HO.out.2.1, HO.out.2.2.drew⟩
        clear hcell hfz HO
        generalize wr.drew = w2 at *
        go_wp2
        go_roundw
        case rel => exact ⟨k + 1, by omega, by go_num, round_row HO2.out.1 HJ.out (by rw [HN.out.1, byteAt_get s k hks]; exact or_right X _ 1 256 (by decide) rfl HN.out.2 hb8), own1_apart HO2.out.2.1 (by omega), HO2.out.2.2.setCell (by simp) _⟩
        case measure => simp [intOf]; omega
      · have q4 : IntKind.i64.wrap (8 * (k : Int).tmod 4) = 16 := by rw [hm, hr]; decide
        have q5 : IntKind.u32.wrap ((s[k].toNat : Int) * 65536) = (s[k].toNat : Int) * 65536 := by rw [IntKind.wrap_u32']; omega
        rw [hr] at HN
        clear hr hm
        go_wp2
        go_still_tail 14, (by kernel_rfl)
        change wpList _ _ _ _ _ wr.drew
        have hc2 : wr.drew.cell? ⟨w.heap.size + 1, j, none⟩ = some (.int .u32 X) := hcell
        have hf2 : wr.drew.frozen? ⟨w.heap.size + 1, j, none⟩ = false := hfz
        have HO2 : Hid (Row wr.drew (w.heap.size + 1) (upL s.data.toList k) ∧ Bx.Own wr.drew w.heap.size (upL s.data.toList 0) ∧ Below w.heap.size w wr.drew) := Lib.hid ⟨HO.out.1, HO.out.2.1, HO.out.2.2.drew⟩
        clear hcell hfz HO
        generalize wr.drew = w2 at *
        go_wp2
        go_roundw
        case rel => exact ⟨k + 1, by omega, by go_num, round_row HO2.out.1 HJ.out (by rw [HN.out.1, byteAt_get s k hks]; exact or_right X _ 2 65536 (by decide) rfl HN.out.2 hb8), own1_apart HO2.out.2.1 (by omega), HO2.out.2.2.setCell (by simp) _⟩
        case measure => simp [intOf]; omega
      · have q4 : IntKind.i64.wrap (8 * (k : Int).tmod 4) = 24 := by rw [hm, hr]; decide
        have q5 : IntKind.u32.wrap ((s[k].toNat : Int) * 16777216) = (s[k].toNat : Int) * 16777216 := by rw [IntKind.wrap_u32']; omega
        rw [hr] at HN
        clear hr hm
        go_wp2
        go_still_tail 14, (by kernel_rfl)
        change wpList _ _ _ _ _ wr.drew
        have hc2 : wr.drew.cell? ⟨w.heap.size + 1, j, none⟩ = some (.int .u32 X) := hcell
        have hf2 : wr.drew.frozen? ⟨w.heap.size + 1, j, none⟩ = false := hfz
        have HO2 : Hid (Row wr.drew (w.heap.size + 1) (upL s.data.toList k) ∧ Bx.Own wr.drew w.heap.size (upL s.data.toList 0) ∧ Below w.heap.size w wr.drew) := Lib.hid ⟨HO.out.1, HO.out.2.1, HO.out.2.2.drew⟩
        clear hcell hfz HO
        generalize wr.drew = w2 at *
        go_wp2
        go_roundw
        case rel => exact ⟨k + 1, by omega, by go_num, round_row HO2.out.1 HJ.out (by rw [HN.out.1, byteAt_get s k hks]; exact or_right X _ 3 16777216 (by decide) rfl HN.out.2 hb8), own1_apart HO2.out.2.1 (by omega), HO2.out.2.2.setCell (by simp) _⟩
        case measure => simp [intOf]; omega
    · obtain rfl : k = 64 := by omega
      have HO := Lib.hid (And.intro ho (And.intro hz hb))
      clear ho hz hb
      have hlen : (upL s.data.toList 64).length = 16 := by simp [upL]
      go_wp2_with (first | (refine Bx.step_load (op := ⟨some 23, _, _, _, _, _⟩) rfl 73 (.tmp 3) rfl (w.heap.size + 1) rfl (upL s.data.toList 64) _ Tryd.underlying73 rfl (by rw [hlen]; exact info_w) (Row.blk HO.out.1) ?_) | (refine Bx.step_store (op := ⟨none, _, _, _, _, _⟩) rfl 73 (.tmp 2) (.tmp 23) rfl w.heap.size (upL s.data.toList 0) (upL s.data.toList 64) rfl rfl (by simp [upL]) (by rw [hlen]; exact info_w) (upL_one _ _) HO.out.2.1 ?_))
      exact bodyPost_ret (v := .agg (upL s.data.toList 64).toArray) (results_arr Tryd.results50 rfl Tryd.underlying73 rfl (by rw [hlen]; exact info_w) (HO.out.2.1.put (by simp [upL])).blk) rfl ⟨rfl, Bx.bel_cells HO.out.2.2 (Nat.le_refl _)⟩

end Dig
end Go.Proofs.YtanfmghfmmhglaaDoor
