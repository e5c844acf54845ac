/-
  Counts of a table as plain data: the oldest entry, how many are at a port, the ports that are used, and a number's digits.
-/
import Derived.Test.YtfnjgjehmddkcaaDoorTabInv
import Derived.Test.YtfnjgjehmddkcaaDoorMacC
import Derived.Lib.ItoaLen
namespace Go.Proofs.YtfnjgjehmddkcaaDoor
namespace Tab
open Go.RowKit

/-- The one that is older, or the first of both. -/
def oldS (o e : En) : En := if o.a < e.a then e else o
def oldF (x : En) (l : List En) : En := l.foldl oldS x
/-- The oldest entry, or nothing. -/
def oldG : List En → En
  | [] => ⟨0, 0, 0, 0⟩
  | x :: l => oldF x (x :: l)
def isOld (l : List En) : Bool := !l.isEmpty

theorem old_take (x : En) (l : List En) (k : Nat) (h : k < l.length) : oldF x (l.take (k + 1)) = oldS (oldF x (l.take k)) l[k] := by
  rw [List.take_succ_eq_append_getElem h]
  unfold oldF
  rw [List.foldl_append]
  rfl

theorem old_first (x : En) : oldS x x = x := by
  unfold oldS
  rw [if_neg (Int.lt_irrefl _)]

theorem oldF_le : ∀ (l : List En) (x : En), x.a ≤ (oldF x l).a ∧ ∀ e ∈ l, e.a ≤ (oldF x l).a
  | [], x => ⟨Int.le_refl _, fun e he => by simp at he⟩
  | y :: l, x => by
    have ih := oldF_le l (oldS x y)
    have e : oldF x (y :: l) = oldF (oldS x y) l := rfl
    rw [e]
    have h1 : x.a ≤ (oldS x y).a ∧ y.a ≤ (oldS x y).a := by unfold oldS; split <;> constructor <;> omega
    refine ⟨Int.le_trans h1.1 ih.1, fun z hz => ?_⟩
    rcases List.mem_cons.1 hz with rfl | hz
    · exact Int.le_trans h1.2 ih.1
    · exact ih.2 z hz

theorem oldG_le (l : List En) : ∀ e ∈ l, e.a ≤ (oldG l).a := by
  cases l with
  | nil => intro e he; simp at he
  | cons x l => exact (oldF_le (x :: l) x).2

theorem oldG_some {l : List En} (h : 0 < l.length) : oldG l = oldF l[0] l := by
  cases l with
  | nil => simp at h
  | cons x l => rfl

/-- What the document's answer has found behind k rounds. -/
def outK (l : List En) (k : Nat) : En := if k = 0 then ⟨0, 0, 0, 0⟩ else oldG (l.take k)

theorem out_first (l : List En) (h : 0 < l.length) : outK l (0 + 1) = l[0] := by
  cases l with
  | nil => simp at h
  | cons x l =>
    unfold outK
    rw [if_neg (by omega)]
    show oldF x [x] = x
    exact old_first x

theorem out_next (l : List En) (k : Nat) (h0 : 0 < k) (h : k < l.length) : outK l (k + 1) = if (outK l k).a < l[k].a then l[k] else outK l k := by
  have e : ∀ n, 0 < n → n ≤ l.length → outK l n = oldF l[0] (l.take n) := fun n hn hl => by
    cases l with
    | nil => simp at h
    | cons x l =>
      unfold outK
      rw [if_neg (by omega)]
      cases n with
      | zero => omega
      | succ n => rfl
  rw [e (k + 1) (by omega) (by omega), e k h0 (by omega), old_take _ _ _ h]
  rfl

theorem out_all (l : List En) : outK l l.length = oldG l := by
  cases l with
  | nil => rfl
  | cons x l =>
    unfold outK
    rw [if_neg (by simp), List.take_length]

theorem found_all (l : List En) : decide (0 < l.length) = isOld l := by
  cases l <;> rfl

/-- How many are at a port. -/
def atN (l : List En) (p : Int) : Nat := l.countP fun e => decide (e.p = p)

theorem at_le (l : List En) (p : Int) : atN l p ≤ l.length := List.countP_le_length

theorem at_lack (l : List En) (p : Int) : (l.length : Int) - (l.filter (lackE p 0)).length = atN l p := by
  have h := List.length_eq_countP_add_countP (fun e : En => decide (e.p = p)) (l := l)
  have e : (l.filter (lackE p 0)).length = l.countP fun e => ¬ (decide (e.p = p) = true) := by
    rw [← List.countP_eq_length_filter]
    congr 1
    funext e
    unfold lackE
    simp
  rw [e]
  unfold atN
  omega

theorem at_take (l : List En) (p : Int) (k : Nat) (h : k < l.length) : atN (l.take (k + 1)) p = atN (l.take k) p + if l[k].p = p then 1 else 0 := by
  unfold atN
  rw [List.take_succ_eq_append_getElem h, List.countP_append, List.countP_cons]
  simp

/-- How many are at ports below k. -/
def sumN (l : List En) : Nat → Nat
  | 0 => 0
  | k + 1 => sumN l k + atN l k

theorem sum_cons (x : En) (l : List En) : ∀ k, sumN (x :: l) k = sumN l k + if 0 ≤ x.p ∧ x.p < k then 1 else 0
  | 0 => by
    have : ¬ (0 ≤ x.p ∧ x.p < ((0 : Nat) : Int)) := by omega
    simp only [sumN, if_neg this]
  | k + 1 => by
    have ih := sum_cons x l k
    have e : atN (x :: l) k = atN l k + if x.p = (k : Int) then 1 else 0 := by unfold atN; rw [List.countP_cons]; simp
    simp only [sumN, ih, e]
    by_cases h : x.p = (k : Int)
    · rw [if_pos h, if_neg (by omega), if_pos (by omega)]
      omega
    · rw [if_neg h]
      by_cases h2 : 0 ≤ x.p ∧ x.p < (k : Int)
      · rw [if_pos h2, if_pos (by omega)]
        omega
      · rw [if_neg h2, if_neg (by omega)]
        omega

theorem sum_le : ∀ (l : List En) (k : Nat), sumN l k ≤ l.length
  | [], k => by
    have : ∀ k, sumN [] k = 0 := fun k => by induction k with | zero => rfl | succ k ih => simp [sumN, ih, atN]
    rw [this]
    exact Nat.le_refl _
  | x :: l, k => by
    rw [sum_cons]
    have := sum_le l k
    simp only [List.length_cons]
    split <;> omega

theorem sum_all : ∀ (l : List En), (∀ e ∈ l, rightP e.p = true) → sumN l 8 = l.length
  | [], _ => by decide
  | x :: l, h => by
    rw [sum_cons, sum_all l fun e he => h e (List.mem_cons_of_mem _ he)]
    have := h x List.mem_cons_self
    unfold rightP at this
    rw [decide_eq_true_eq] at this
    rw [if_pos (show 0 ≤ x.p ∧ x.p < ((8 : Nat) : Int) by omega)]
    rfl

theorem sound_sum {most long : Int} {l : List En} (h : sndB most long l = true) : sumN l 8 = l.length := sum_all l fun e he => by
  have := snd_ok h e he
  unfold okE at this
  simp only [Bool.and_eq_true] at this
  exact this.1.1.2

/-- The ports that are used, put into a set one by one. -/
def usedF (l : List En) : Int := l.foldl (fun s e => Por.withI s e.p) 0

theorem used_take (l : List En) (k : Nat) (h : k < l.length) : usedF (l.take (k + 1)) = Por.withI (usedF (l.take k)) l[k].p := by
  rw [List.take_succ_eq_append_getElem h]
  unfold usedF
  rw [List.foldl_append]
  rfl

theorem has_more_fin : ∀ m : Fin 256, ∀ k j : Fin 8, Por.hasN (m.val ||| 2 ^ k.val) j.val = (Por.hasN m.val j.val || decide (k = j)) := by decide +kernel

theorem has_more (s q : Int) (p : Nat) (hp : p < 8) : Por.hasZ (Por.low (Por.withI s q)) p = (Por.hasZ (Por.low s) p || decide (q = p)) := by
  rw [Por.low_withI]
  unfold Por.withN Por.hasZ
  have h8 : (0 : Int) ≤ p ∧ (p : Int) < 8 := by omega
  rw [decide_eq_true h8, Bool.true_and, Bool.true_and, Int.toNat_natCast]
  by_cases hq : 0 ≤ q ∧ q < 8
  · rw [if_pos hq]
    have h := has_more_fin ⟨Por.low s, Por.low_lt s⟩ ⟨q.toNat, by omega⟩ ⟨p, hp⟩
    simp only at h
    rw [h]
    congr 1
    rw [decide_eq_decide, Fin.mk.injEq]
    omega
  · rw [if_neg hq, decide_eq_false (p := q = (p : Int)) (by omega), Bool.or_false]

theorem used_list : ∀ (l : List En) (s : Int) (p : Nat), p < 8 → Por.hasZ (Por.low (l.foldl (fun s e => Por.withI s e.p) s)) p = (Por.hasZ (Por.low s) p || decide (0 < atN l p))
  | [], s, p, _ => by simp [atN]
  | x :: l, s, p, hp => by
    rw [List.foldl_cons, used_list l _ p hp, has_more s x.p p hp, Bool.or_assoc]
    congr 1
    unfold atN
    rw [List.countP_cons]
    by_cases h : x.p = (p : Int)
    · simp [h]
    · simp [h]

theorem used_has (l : List En) (p : Nat) (hp : p < 8) : Por.hasZ (Por.low (usedF l)) p = decide (0 < atN l p) := by
  have h := used_list l 0 p hp
  have h0 : Por.hasZ (Por.low 0) p = false := by
    unfold Por.hasZ Por.hasN Por.low
    simp
  rw [h0, Bool.false_or] at h
  exact h

/-- A number's digits, or a mark for one below 0. -/
def numL (n : Int) : List UInt8 := if n < 0 then [45] else Lib.decDigits n.toNat
/-- An entry's line. -/
def lineL (e : En) : List UInt8 := (((numL e.v ++ [32]) ++ (Mac.txtS e.m).data.toList) ++ [32]) ++ numL e.p ++ [10]
def textL (l : List En) : List UInt8 := l.flatMap lineL

theorem text_take (l : List En) (k : Nat) (h : k < l.length) : textL (l.take (k + 1)) = textL (l.take k) ++ lineL l[k] := by
  rw [List.take_succ_eq_append_getElem h]
  unfold textL
  rw [List.flatMap_append]
  simp

end Tab
end Go.Proofs.YtfnjgjehmddkcaaDoor
