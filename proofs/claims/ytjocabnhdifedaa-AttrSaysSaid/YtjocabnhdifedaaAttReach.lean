/-
  A slice of attributes that came in: its fields, and how long its texts can be; what the law's guard says then.
-/
import Derived.Test.YtjocabnhdifedaaAttOpen
import Derived.Test.YtjocabnhdifedaaAttSwapsA
import Derived.Test.YtjocabnhdifedaaAttD
import Derived.Test.YtjocabnhdifedaaSized
namespace Go.Proofs.Ytjocabnhdifedaa
open Go.ChangeShapes Go.WideShapes Go.ChangeAt Go.RowKit Go.Deep
namespace Att

theorem open_reach {H : Type} {enc : TypeId × Value → H} {W : World} {base b0 : Nat} {spare : Nat → Bool} {held : Bool} {r : Reach} {v : Value} {d : DataW H} {p : List MemPlace}
    (hv : Value.okWide Try.prog W r b0 22 v) (h : DataW.Trod enc Try.prog W base spare held 22 v d p) (hz : ∀ n ∈ d.weights Try.prog 22, n ≤ reachBytes) :
    ∃ (A : Option Addr) (l : List At) (cap : Nat), v = .slice A l.length cap ∧ l.length ≤ maxLen ∧ Ats W A l ∧ ∀ x ∈ l, x.2.size ≤ 140737488351232 := by
  obtain ⟨a0, len, cap, rfl⟩ := okWide_slice Try.underlying22 hv
  have h' := h
  obtain ⟨A, l, c, e, hl, hA, _⟩ := open_ats hv h'
  injection e with e1 e2 e3
  subst e1 e2 e3
  refine ⟨a0, l, cap, rfl, hl, hA, fun x hx => ?_⟩
  obtain ⟨fuel, hf⟩ := h
  rcases open_slice_pairs Try.underlying22 Try.underlying37 (by kernel_rfl) rfl rfl (by kernel_rfl) (by kernel_rfl) hf with ⟨hcs, _⟩ | ⟨a, len', cap', m, n, V0, V1, D0, D1, P0, P1, hcs, _, hl2, hm, hmm, hd, hcell⟩
  · simp [Value.cells] at hcs
    obtain ⟨_, h0, _⟩ := hcs
    rw [h0] at hx
    cases hx
  · simp [Value.cells] at hcs
    obtain ⟨rfl, h0, rfl⟩ := hcs
    have hlm : len' ≤ m := by rw [hmm]; split <;> omega
    obtain ⟨j, hj, rfl⟩ := List.getElem_of_mem hx
    obtain ⟨b, o, ea, _, _, c1⟩ := hA.at hj
    cases ea
    obtain ⟨_, k1, _, t1⟩ := hcell j (by omega)
    rw [Addr.add_lit, ← Nat.add_assoc, c1] at k1
    obtain ⟨s, e1, e2, _⟩ := DataW.trod_string Try.underlying9 t1
    simp only [Prod.mk.injEq] at hd
    obtain ⟨rfl, _⟩ := hd
    have e3 : l[j].2 = s := by
      simp at e1
      rw [e1] at k1
      simpa using k1
    have hmem : (DataW.agg [D0 j, D1 j] : DataW H) ∈ (List.range len').map fun i => DataW.agg [D0 i, D1 i] := List.mem_map.2 ⟨j, List.mem_range.2 (by omega), rfl⟩
    have hw : l[j].2.size ∈ (DataW.agg [D0 j, D1 j] : DataW H).weights Try.prog 37 := by
      simp only [Prod.mk.injEq] at e2
      rw [e2.1, e3]
      simp only [DataW.weights, Try.underlying37]
      simp [DataW.weightsEach, DataW.weights]
    have hall := Fr.weights_all hmem _ hw
    have := hz l[j].2.size (by
      simp only [DataW.weights, Try.underlying22, List.mem_cons, List.mem_append]
      exact .inr (.inl hall))
    exact this

/-- How many bytes the values have. -/
def valS (l : List At) : Nat := (l.map (fun a => a.2.size)).sum

theorem longB_sum : ∀ (l : List At) (i n : Nat), longB i n l = false → n ≤ 30000 → (∀ x ∈ l, x.2.size ≤ 140737488351232) → n + valS l ≤ 30000
  | [], i, n, _, hn, _ => hn
  | a :: l, i, n, h, hn, hz => by
    have ha := hz a (List.mem_cons_self)
    rw [longB, IntWalk.wrap64_in _ (by omega)] at h
    split at h
    · cases h
    · rename_i h2
      have e : (n : Int) + (a.2.size : Int) = ((n + a.2.size : Nat) : Int) := by omega
      rw [e] at h
      have := longB_sum l (i + 1) (n + a.2.size) h (by omega) (fun x hx => hz x (List.mem_cons_of_mem _ hx))
      have e2 : valS (a :: l) = a.2.size + valS l := by unfold valS; rw [List.map_cons, List.sum_cons]
      rw [e2]
      omega

theorem cat_vals (l : List At) (kind : Int) : (catS (allV l kind)).size ≤ valS l := by
  rw [catS_size]
  induction l with
  | nil => exact Nat.le_refl _
  | cons a l ih =>
    have e2 : valS (a :: l) = a.2.size + valS l := by unfold valS; rw [List.map_cons, List.sum_cons]
    rw [e2]
    unfold allV at ih ⊢
    by_cases ha : (a.1 == kind) = true
    · rw [List.filter_cons_of_pos (by exact ha), List.map_cons, List.map_cons, List.flatten_cons, List.length_append, size_list]
      omega
    · rw [List.filter_cons_of_neg (by exact ha)]
      omega

end Att
end Go.Proofs.Ytjocabnhdifedaa
