/-
  A drawn region that loads cells and stores into the same cells behind all its loads (no program): a load may be taken first as long as the store that waits for it, the gate, has not come up.
-/
import Derived.OrdersHeld
import Derived.Deep.RegionHeld
namespace Go.Proofs.Ytkjdnmlaehjmgaa
open Go
namespace Gt

section
variable {P : Program} {ops : Array Oper} {Q : Exit → Act → World → Prop} {md : Region.Mode} {S : World → Prop} {g : Nat}

/-- What is asked behind number i: behind the gate that the rest goes, with nothing asked of the world; else S, and R. -/
def Behind (P : Program) (md : Region.Mode) (ops : Array Oper) (Q : Exit → Act → World → Prop) (S : World → Prop) (g i n : Nat) (l : Array Bool) (R : Act → World → Prop) (a : Act) (w : World) : Prop :=
  (i = g → wpAnyH P md ops Q (fun _ => True) n l a w) ∧ (i ≠ g → S w ∧ R a w)

/-- All orders from here on, n operations at most. -/
def Till (P : Program) (md : Region.Mode) (ops : Array Oper) (Q : Exit → Act → World → Prop) (S : World → Prop) (g : Nat) : Nat → Array Bool → Act → World → Prop
  | n, l, a, w => (Region.ready md ops l = [] → Q .normal a w) ∧
    match n with
    | 0 => Region.ready md ops l = []
    | n + 1 => ∀ i, i ∈ Region.ready md ops l → wpOp P ops Q i (Behind P md ops Q S g i n (l.setIfInBounds i true) (Till P md ops Q S g n (l.setIfInBounds i true))) a w

theorem till_any : ∀ (n : Nat) {l : Array Bool} {a : Act} {w : World}, Till P md ops Q S g n l a w → wpAny P md ops Q n l a w
  | 0, _, _, _, h => by
    unfold Till at h
    exact ⟨h.2, h.1 h.2⟩
  | n + 1, l, a, w, h => by
    unfold Till at h
    refine ⟨h.1, fun i hi => wpOp_mono ?_ (h.2 i hi)⟩
    intro x y hb
    rcases Nat.decEq i g with e | e
    · exact till_any n (hb.2 e).2
    · exact wpAny_of_held n _ x y (hb.1 e)

/-- Two that may both come up do not wait for one another. -/
theorem unbound {l : Array Bool} {i j : Nat} {oj : Oper} (hi : i ∈ Region.ready md ops l) (hj : j ∈ Region.ready md ops l) (ho : ops[j]? = some oj) :
    ∀ e ∈ oj.after, Region.binds md e = true → e.on ≠ i := by
  rintro e he hb rfl
  obtain ⟨_, o, ho', all⟩ := mem_ready.1 hj
  rw [ho] at ho'
  cases ho'
  have yes := all e he hb
  have no := (mem_ready.1 hi).1
  by_cases h : e.on < l.size
  · simp [Array.getD, h] at yes no
    rw [yes] at no
    exact Bool.noConfusion no
  · simp [Array.getD, h] at yes

/-- Number i is apart from all that may come up ahead of it. -/
def Alone (md : Region.Mode) (ops : Array Oper) (i : Nat) (oi : Oper) (l : Array Bool) : Prop :=
  ∀ j oj, ops[j]? = some oj → j ≠ i → l.getD j true = false → (∀ e ∈ oj.after, Region.binds md e = true → e.on ≠ i) → oi.apart ops oj = true

theorem Alone.next {i j : Nat} {oi : Oper} {l : Array Bool} (h : Alone md ops i oi l) (hj : l.getD j true = false) : Alone md ops i oi (l.setIfInBounds j true) := by
  intro k ok h1 h2 h3 h4
  refine h k ok h1 h2 ?_ h4
  rcases Nat.decEq j k with e | e
  · rwa [getD_set_ne true e] at h3
  · exact e ▸ hj

/-- The gate waits for number i, another one. -/
def Waits (md : Region.Mode) (ops : Array Oper) (g i : Nat) : Prop := i ≠ g ∧ ∀ og, ops[g]? = some og → ∃ e ∈ og.after, Region.binds md e = true ∧ e.on = i

theorem till_take {i : Nat} {oi : Oper} {v : Value} (ho : ops[i]? = some oi) (hs : Region.noSelect ops = true) (hQ : ∀ c a w, Q (.panic c) (a.put oi.dst v) w → Q (.panic c) a w) (hg : Waits md ops g i) :
    ∀ (n : Nat) (l : Array Bool) (a : Act) (w : World), Alone md ops i oi l → i ∈ Region.ready md ops l → S w → YieldsIf P ops S oi v a →
      Till P md ops Q S g n (l.setIfInBounds i true) (a.put oi.dst v) w → Till P md ops Q S g (n + 1) l a w := by
  intro n
  induction n with
  | zero =>
    intro l a w _ hr hS hy H
    unfold Till at H ⊢
    refine ⟨fun e => absurd (e ▸ hr) (List.not_mem_nil), fun j hj => ?_⟩
    rcases Nat.decEq j i with e | rfl
    · exact absurd (H.2 ▸ ready_mono hj e) (List.not_mem_nil)
    · exact hy.wpOp ho hS ⟨fun e => absurd e hg.1, fun _ => ⟨hS, by unfold Till; exact H⟩⟩
  | succ n IH =>
    intro l a w hA hr hS hy H
    have H0 := H
    unfold Till at H ⊢
    refine ⟨fun e => absurd (e ▸ hr) (List.not_mem_nil), fun j hj => ?_⟩
    rcases Nat.decEq j i with e | rfl
    · obtain ⟨hun, oj, hoj, _⟩ := mem_ready.1 hj
      have hnw := unbound hr hj hoj
      have hjg : j ≠ g := by
        rintro rfl
        obtain ⟨x, hx, hb, hon⟩ := hg.2 oj hoj
        exact hnw x hx hb hon
      have two := wpOp_putIf hoj (hA j oj hoj e hun hnw) (fun cs b => Region.noSelect_spec hs i oi cs b ho) (fun cs b => Region.noSelect_spec hs j oj cs b hoj) hQ hy (H.2 j (ready_mono hj e))
      refine wpOp_mono (fun x y hxy => ⟨fun z => absurd z hjg, fun _ => ?_⟩) two
      obtain ⟨hyx, hb⟩ := hxy
      obtain ⟨hSy, hT⟩ := hb.2 hjg
      refine ⟨hSy, IH _ x y (hA.next hun) (ready_mono hr (Ne.symm e)) hSy hyx ?_⟩
      rwa [Array.setIfInBounds_comm true true (Ne.symm e)] at hT
    · exact hy.wpOp ho hS ⟨fun e => absurd e hg.1, fun _ => ⟨hS, H0⟩⟩

/-- Whether the gate waits for number i. -/
def waits (md : Region.Mode) (ops : Array Oper) (g i : Nat) : Bool := (i != g) && ((ops[g]?).map (fun o => o.after.any (fun e => Region.binds md e && e.on == i))).getD true

theorem waits_is {i : Nat} (h : waits md ops g i = true) : Waits md ops g i := by
  unfold waits at h
  rw [Bool.and_eq_true, bne_iff_ne] at h
  refine ⟨h.1, fun og ho => ?_⟩
  have h2 := h.2
  rw [ho] at h2
  obtain ⟨k, hk, hb⟩ : ∃ k, ∃ h : k < og.after.size, Region.binds md og.after[k] = true ∧ og.after[k].on = i := by simpa using h2
  exact ⟨og.after[k], Array.getElem_mem hk, hb⟩

/-- Take number i first, for which the gate waits. -/
theorem gate_take {i : Nat} {oi : Oper} {v : Value} {n : Nat} {l : Array Bool} {a : Act} {w : World} (ho : ops[i]? = some oi)
    (hs : Region.noSelect ops = true) (hf : Region.free md ops l i = true) (hr : (Region.ready md ops l).contains i = true) (hg : waits md ops g i = true)
    (hQ : ∀ c a w, Q (.panic c) (a.put oi.dst v) w → Q (.panic c) a w) (hy : YieldsIf P ops S oi v a) (hS : S w)
    (h : Till P md ops Q S g n (l.setIfInBounds i true) (a.put oi.dst v) w) : Till P md ops Q S g (n + 1) l a w :=
  till_take ho hs hQ (waits_is hg) n l a w (Region.free_spec ho hf) (by simpa using hr) hS hy h

theorem till_one {i n : Nat} {l : Array Bool} {a : Act} {w : World} (hr : Region.ready md ops l = [i])
    (h : wpOp P ops Q i (Behind P md ops Q S g i n (l.setIfInBounds i true) (Till P md ops Q S g n (l.setIfInBounds i true))) a w) : Till P md ops Q S g (n + 1) l a w := by
  unfold Till
  rw [hr]
  exact ⟨fun e => (by cases e), fun j hj => (List.mem_singleton.1 hj) ▸ h⟩

/-- The only one that may come up comes up, ahead of the gate. -/
theorem gate_step {i : Nat} {o : Oper} {n : Nat} {l : Array Bool} {a : Act} {w : World} (hr : Region.ready md ops l = [i]) (hig : i ≠ g) (ho : ops[i]? = some o)
    (h : ∀ K : Act → World → Prop, Shut (∀ x y, S y → (S y → Till P md ops Q S g n (l.setIfInBounds i true) x y) → K x y) → if Region.wanted o (yielded ops a.tmps) = true then Oper.wp P o a w K Q else K (a.put o.dst undef) w) :
    Till P md ops Q S g (n + 1) l a w :=
  till_one hr (wpOp_step ho fun K hK => h K fun x y hS hT => hK x y ⟨fun e => absurd e hig, fun _ => ⟨hS, hT hS⟩⟩)

/-- The gate comes up, alone. -/
theorem gate_gate {o : Oper} {n : Nat} {l : Array Bool} {a : Act} {w : World} (hr : Region.ready md ops l = [g]) (ho : ops[g]? = some o)
    (h : ∀ K : Act → World → Prop, Shut (∀ x y, wpAnyH P md ops Q (fun _ => True) n (l.setIfInBounds g true) x y → K x y) → if Region.wanted o (yielded ops a.tmps) = true then Oper.wp P o a w K Q else K (a.put o.dst undef) w) :
    Till P md ops Q S g (n + 1) l a w :=
  till_one hr (wpOp_step ho fun K hK => h K fun x y hT => hK x y ⟨fun _ => hT, fun e => absurd rfl e⟩)

/-- The beginning: S is shown of the world behind the draw. -/
theorem region_gate {id : Nat} {a : Act} {w : World} (hm : P.follows .mixedOrders = true) (hS : S w.drew)
    (h : S w.drew → Till P .any ops Q S g ops.size (Array.replicate ops.size false) a w.drew) : (Code.region id ops true).wp P Q a w :=
  wp_region_any hm (till_any _ (h hS))

end

end Gt
end Go.Proofs.Ytkjdnmlaehjmgaa
