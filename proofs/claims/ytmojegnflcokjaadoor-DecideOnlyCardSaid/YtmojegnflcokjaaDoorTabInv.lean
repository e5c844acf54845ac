/-
  What stays while the law's steps go on (plain): the table is sound; what each step answers.
-/
import Derived.Test.YtmojegnflcokjaaDoorTabK
namespace Go.Proofs.YtmojegnflcokjaaDoor
open Go.RowKit
namespace Tab

/-- A sound table whose addresses are numbers of 64 bits. -/
structure Inv (most long : Int) (l : List En) : Prop where
  snd : Snd most long l
  mac : ∀ e ∈ l, e.m < 18446744073709551616

theorem Inv.old {most long : Int} {l : List En} (h : Inv most long l) : ∀ e ∈ l, -9223372036854775808 ≤ e.a := fun e he => by
  have := h.snd.ok e he
  unfold okE at this
  simp only [Bool.and_eq_true, decide_eq_true_eq] at this
  omega

theorem learn_mem {most : Int} {l : List En} {v : Int} {m : Nat} {p : Int} {e : En} (h : e ∈ learnL most l v m p) : e = ⟨v, m, p, 0⟩ ∨ e ∈ l := by
  unfold learnL at h
  split at h
  · rcases ins_mem.1 h with h | h
    · exact .inl h
    · exact .inr (List.mem_filter.1 h).1
  · exact .inr h

theorem Inv.learn {most long : Int} {l : List En} (h : Inv most long l) (hL : 1 ≤ long) (v : Int) (m : Nat) (hm : m < 18446744073709551616) (p : Int) : Inv most long (learnL most l v m p) :=
  ⟨h.snd.learn hL v m p, fun e he => by
    rcases learn_mem he with rfl | he
    · exact hm
    · exact h.mac e he⟩

theorem Inv.filter {most long : Int} {l : List En} (h : Inv most long l) (f : En → Bool) : Inv most long (l.filter f) := ⟨h.snd.filter f, fun e he => h.mac e (List.mem_filter.1 he).1⟩

theorem Inv.tick {most long : Int} {l : List En} (h : Inv most long l) : Inv most long (tickL long l) := ⟨h.snd.tick, fun e he => by
  unfold tickL at he
  obtain ⟨x, hx, rfl⟩ := List.mem_map.1 he
  exact h.mac x (List.mem_filter.1 hx).1⟩

theorem Inv.step {most long : Int} {l : List En} (h : Inv most long l) (hL : 1 ≤ long) (o : Ev) (hm : o.m < 18446744073709551616) : Inv most long (stepL most long l o) := by
  unfold stepL
  split
  · exact h.learn hL _ _ hm _
  · split
    · exact h.tick
    · split
      · exact h.filter _
      · exact h.filter _

theorem step_len (most long : Int) (l : List En) (o : Ev) : (stepL most long l o).length ≤ l.length + 1 := by
  unfold stepL
  split
  · exact learn_len most l _ _ _
  · split
    · unfold tickL
      rw [List.length_map]
      have := List.length_filter_le (outl long) l
      omega
    · split
      · have := List.length_filter_le (flushE (Por.low o.s)) l
        omega
      · have := List.length_filter_le (lackE o.p o.v) l
        omega

theorem step_num (most long : Int) (l : List En) (o : Ev) : 0 ≤ stepN most long l o := by
  unfold stepN
  split
  · exact Int.le_refl _
  · rename_i h
    unfold stepL
    rw [if_neg h]
    split
    · unfold tickL
      rw [List.length_map]
      have := List.length_filter_le (outl long) l
      omega
    · split
      · have := List.length_filter_le (flushE (Por.low o.s)) l
        omega
      · have := List.length_filter_le (lackE o.p o.v) l
        omega

theorem step_wrong {most long : Int} {l : List En} {o : Ev} (h : ¬ stepE most l o = 0) : o.k = 0 ∧ stepL most long l o = l := by
  unfold stepE at h
  split at h
  · rename_i h0
    exact ⟨h0, by unfold stepL; rw [if_pos h0, learn_err h]⟩
  · exact absurd rfl h

theorem step_found {most long : Int} {l : List En} (h : Inv most long l) (hL : 1 ≤ long) {o : Ev} (h0 : o.k = 0) (he : stepE most l o = 0) : gotE (stepL most long l o) o.v o.m = ⟨o.v, o.m, o.p, 0⟩ ∧ isE (stepL most long l o) o.v o.m = true := by
  unfold stepE at he
  rw [if_pos h0] at he
  have hf := learn_find h.snd hL he
  unfold gotE isE stepL
  rw [if_pos h0, hf]
  exact ⟨rfl, rfl⟩

theorem stepped_flush {most long : Int} {l : List En} {o : Ev} (h : o.k = 2) : ∀ y ∈ stepL most long l o, Por.hasZ (Por.low o.s) y.p = false := fun y hy => by
  unfold stepL at hy
  rw [if_neg (by omega), if_neg (by omega), if_pos h] at hy
  have := (List.mem_filter.1 hy).2
  unfold flushE at this
  simpa using this

theorem stepped_forget {most long : Int} {l : List En} {o : Ev} (h : 2 < o.k) : ∀ y ∈ stepL most long l o, ¬ y.p = o.p ∨ (¬ o.v = 0 ∧ ¬ o.v = y.v) := fun y hy => by
  unfold stepL at hy
  rw [if_neg (by omega), if_neg (by omega), if_neg (by omega)] at hy
  have := (List.mem_filter.1 hy).2
  unfold lackE at this
  simp only [Bool.or_eq_true, Bool.and_eq_true, decide_eq_true_eq] at this
  omega

theorem rem_of (n : Int) (d : Nat) (hd : 0 < d) (hd2 : d < 1000) : ∃ r : Nat, r < d ∧ wrap64 ((IntKind.u64.wrap n).tmod d) = r := by
  have h0 : 0 ≤ IntKind.u64.wrap n := by rw [IntKind.wrap_u64]; omega
  have h1 := Int.emod_lt_of_pos (IntKind.u64.wrap n) (show (0 : Int) < d by omega)
  have h2 := Int.emod_nonneg (IntKind.u64.wrap n) (show (d : Int) ≠ 0 by omega)
  refine ⟨((IntKind.u64.wrap n) % d).toNat, by omega, ?_⟩
  rw [Int.tmod_eq_emod_of_nonneg h0]
  generalize IntKind.u64.wrap n % (d : Int) = r at *
  unfold wrap64
  omega

end Tab
end Go.Proofs.YtmojegnflcokjaaDoor
