/-
  What the small functions of package ether, and the document's answers beside them, say of any frame: headOf, within, pair, pairAt, Retag, Vlan, Turn, Short; and that they change nothing that was there.
-/
import Derived.Test.YtbighadkcmhplaaMacA
namespace Go.Proofs.Ytbighadkcmhplaa
open Go.RowKit
namespace Eth
open Oct Mac

theorem then_below {a b c : World} (h1 : Below a.heap.size a b) (h2 : Below b.heap.size b c) : Below a.heap.size a c := h1.trans (h2.mono h1.size)

theorem ret_val {a b : Value} (h : a = b) : Ending.returned a = .returned b := by rw [h]

/-- A frame as a value. -/
abbrev fr (d s : Int) (g : Bool) (p v t : Int) (b : ByteArray) : Value := .agg #[.int .u64 d, .int .u64 s, .bool g, .int .i64 p, .int .i64 v, .int .i64 t, .string b]

theorem get2_lt (s : ByteArray) (a : Int) : (getR s a 2).1 < 65536 := by
  unfold getR
  split
  · simp
  · split
    · simp
    · rename_i h
      have h' : cutE s.size a 2 = 0 := by omega
      have hl := getL_lt (cutS s a 2).data.toList
      have hz := cutS_size s a 2 h'
      have hn : (cutS s a 2).data.toList.length = 2 := by
        have : (cutS s a 2).data.toList.length = (cutS s a 2).size := by rw [Array.length_toList]; rfl
        omega
      rw [hn] at hl
      exact hl

set_option maxRecDepth 40000 in
theorem retag_any (d s : Int) (g : Bool) (p v t : Int) (b : ByteArray) (x : Bool) (y : Int) (w : World) :
    Calls Try.prog 26 #[fr d s g p v t b, .bool x, .int .i64 y] w fun e w' => e = .returned (fr d s x (if x then p else 0) (if x then y else 0) t b) ∧ Below w.heap.size w w' := by
  cases x
  · go_enter Try.func26, Try.ntmps26
    go_wp2
    refine bodyPost_ret (v := fr d s false 0 0 t b) ?_ rfl ⟨rfl, ?_⟩
    · simp [results, Try.results26, go_sem]
    · exact ((Below.refl _ _).alloc (Nat.le_refl _) _).alloc (by simp) _
  · go_enter Try.func26, Try.ntmps26
    go_wp2
    refine bodyPost_ret (v := fr d s true p y t b) ?_ rfl ⟨rfl, ?_⟩
    · simp [results, Try.results26, go_sem]
    · exact ((Below.refl _ _).alloc (Nat.le_refl _) _).alloc (by simp) _

set_option maxRecDepth 40000 in
theorem rretag_any (d s : Int) (g : Bool) (p v t : Int) (b : ByteArray) (x : Bool) (y : Int) (w : World) :
    Calls Try.prog 27 #[fr d s g p v t b, .bool x, .int .i64 y] w fun e w' => e = .returned (fr d s x (if x then p else 0) (if x then y else 0) t b) ∧ Below w.heap.size w w' := by
  cases x
  · go_enter Try.func27, Try.ntmps27
    go_wp2
    refine bodyPost_ret (v := fr d s false 0 0 t b) ?_ rfl ⟨rfl, ?_⟩
    · simp [results, Try.results27, go_sem]
    · exact ((Below.refl _ _).alloc (Nat.le_refl _) _).alloc (by simp) _
  · go_enter Try.func27, Try.ntmps27
    go_wp2
    refine bodyPost_ret (v := fr d s true p y t b) ?_ rfl ⟨rfl, ?_⟩
    · simp [results, Try.results27, go_sem]
    · exact ((Below.refl _ _).alloc (Nat.le_refl _) _).alloc (by simp) _

def vlanN (g : Bool) (v own : Int) : Int := if g = true ∧ 0 < v then v else own

set_option maxRecDepth 40000 in
theorem vlan_any (d s : Int) (g : Bool) (p v t : Int) (b : ByteArray) (own : Int) (w : World) :
    Calls Try.prog 23 #[fr d s g p v t b, .int .i64 own] w fun e w' => e = .returned (.int .i64 (vlanN g v own)) ∧ Below w.heap.size w w' := by
  cases g
  · go_enter Try.func23, Try.ntmps23
    go_wp2
    go_ret
    exact ⟨ret_int (by simp [vlanN]), (Below.refl _ _).alloc (Nat.le_refl _) _⟩
  · by_cases h : 0 < v
    · go_enter Try.func23, Try.ntmps23
      go_wp2
      go_ret
      exact ⟨ret_int (by simp [vlanN, h]), (Below.refl _ _).alloc (Nat.le_refl _) _⟩
    · go_enter Try.func23, Try.ntmps23
      go_wp2
      go_ret
      exact ⟨ret_int (by simp [vlanN]; omega), (Below.refl _ _).alloc (Nat.le_refl _) _⟩

set_option maxRecDepth 40000 in
theorem rvlan_any (d s : Int) (g : Bool) (p v t : Int) (b : ByteArray) (own : Int) (w : World) :
    Calls Try.prog 24 #[fr d s g p v t b, .int .i64 own] w fun e w' => e = .returned (.int .i64 (vlanN g v own)) ∧ Below w.heap.size w w' := by
  cases g
  · go_enter Try.func24, Try.ntmps24
    go_wp2
    go_ret
    exact ⟨ret_int (by simp [vlanN]), (Below.refl _ _).alloc (Nat.le_refl _) _⟩
  · by_cases h : 0 < v
    · go_enter Try.func24, Try.ntmps24
      go_wp2
      go_ret
      exact ⟨ret_int (by simp [vlanN, h]), (Below.refl _ _).alloc (Nat.le_refl _) _⟩
    · go_enter Try.func24, Try.ntmps24
      go_wp2
      go_ret
      exact ⟨ret_int (by simp [vlanN]; omega), (Below.refl _ _).alloc (Nat.le_refl _) _⟩

theorem bcell {W w1 : World} (hb : Below W.heap.size W w1) : (∀ b o, b < W.heap.size → w1.cell? ⟨b, o, none⟩ = W.cell? ⟨b, o, none⟩) ∧ (∀ b o, b < W.heap.size → w1.frozen? ⟨b, o, none⟩ = W.frozen? ⟨b, o, none⟩) :=
  ⟨fun b o h => hb.cell (p := ⟨b, o, none⟩) h, fun b o h => hb.frozen (p := ⟨b, o, none⟩) h⟩

theorem keep_cell {W w1 : World} {g o : Nat} {v : Value} (hb : Below W.heap.size W w1) (h : W.cell? ⟨g, o, none⟩ = some v) : w1.cell? ⟨g, o, none⟩ = some v := (hb.cell (p := ⟨g, o, none⟩) (World.block_lt_of_cell? _ _ h)).trans h

theorem cell_set (W : World) (b o b' o' : Nat) (v : Value) : (W.setCell ⟨b, o, none⟩ v).cell? ⟨b', o', none⟩ = if b = b' ∧ o = o' then (W.cell? ⟨b', o', none⟩).map (fun _ => v) else W.cell? ⟨b', o', none⟩ := by
  split
  · rename_i h
    obtain ⟨rfl, rfl⟩ := h
    cases hc : W.cell? ⟨b, o, none⟩ with
    | some u => rw [World.cell?_setCell_same _ _ _ hc]; rfl
    | none =>
      simp only [World.setCell, World.cell?, Array.getElem?_modify, ↓reduceIte] at hc ⊢
      cases hh : W.heap[b]? with
      | none => simp
      | some ob => cases ob <;> simp_all
  · rename_i h
    exact World.cell?_setCell_other _ _ _ _ (by intro e; cases e; exact h ⟨rfl, rfl⟩)

end Eth
end Go.Proofs.Ytbighadkcmhplaa
