/-
  Plain data of layer 15 (no program): VLANs, which is found, a plan's eight ports; what a plan takes and sends; whether it is right.
-/
import Derived.Test.YtbighadkcmhplaaPorNum
namespace Go.Proofs.Ytbighadkcmhplaa
namespace Mem

/-- A VLAN: its number, the sets of its ports with a tag and without one. -/
structure Vl where
  v : Int
  t : Int
  u : Int
  deriving DecidableEq

abbrev none3 : Vl := ⟨0, 0, 0⟩

def findV (l : List Vl) (n : Int) : Option Vl := l.find? fun x => x.v == n
def gotV (l : List Vl) (n : Int) : Vl := (findV l n).getD none3
def isV (l : List Vl) (n : Int) : Bool := (findV l n).isSome
def ofV (l : List Vl) (n : Int) : Int := bits .or .i64 (gotV l n).t (gotV l n).u

/-- What the map holds behind one more VLAN. -/
def addV (m : List Vl) (x : Vl) : List Vl := if isV m x.v then m else m ++ [x]
def dictV (l : List Vl) : List Vl := l.foldl addV []

theorem find_add (m : List Vl) (x : Vl) (n : Int) : findV (addV m x) n = (findV m n).or (findV [x] n) := by
  unfold addV
  split
  · rename_i h
    unfold isV at h
    cases hm : findV m n with
    | some y => rfl
    | none =>
      have hx : ¬ x.v = n := by
        intro e
        rw [e, hm] at h
        cases h
      have : findV [x] n = none := by simp [findV, hx]
      rw [this]
      rfl
  · unfold findV
    rw [List.find?_append]

theorem find_fold (n : Int) : ∀ (l m : List Vl), findV (l.foldl addV m) n = (findV m n).or (findV l n)
  | [], m => by simp [findV]
  | x :: l, m => by
    rw [List.foldl_cons, find_fold n l, find_add]
    have : findV (x :: l) n = (findV [x] n).or (findV l n) := by
      unfold findV
      rw [show x :: l = [x] ++ l from rfl, List.find?_append]
    rw [this, Option.or_assoc]

theorem find_dict (l : List Vl) (n : Int) : findV (dictV l) n = findV l n := by
  unfold dictV
  rw [find_fold]
  rfl

theorem got_dict (l : List Vl) (n : Int) : gotV (dictV l) n = gotV l n := by unfold gotV; rw [find_dict]
theorem is_dict (l : List Vl) (n : Int) : isV (dictV l) n = isV l n := by unfold isV; rw [find_dict]

theorem take_next {l : List Vl} {k : Nat} (h : k < l.length) : l.take (k + 1) = l.take k ++ [l[k]] := by simp

theorem dict_next {l : List Vl} {k : Nat} (h : k < l.length) : dictV (l.take (k + 1)) = addV (dictV (l.take k)) l[k] := by
  rw [take_next h]
  unfold dictV
  rw [List.foldl_append]
  rfl

theorem dict_len : ∀ (l m : List Vl), (l.foldl addV m).length ≤ m.length + l.length
  | [], m => by simp
  | x :: l, m => by
    have := dict_len l (addV m x)
    have h2 : (addV m x).length ≤ m.length + 1 := by unfold addV; split <;> simp
    rw [List.foldl_cons, List.length_cons]
    omega

/-- The first of a number, gone over from the front. -/
def posV (l : List Vl) (n : Int) : Nat := l.findIdx fun x => x.v == n
theorem posV_le (l : List Vl) (n : Int) : posV l n ≤ l.length := List.findIdx_le_length

theorem find_pos (n : Int) : ∀ l : List Vl, findV l n = l[posV l n]?
  | [] => rfl
  | x :: l => by
    have ih := find_pos n l
    unfold findV posV at *
    rw [List.find?_cons, List.findIdx_cons]
    cases x.v == n with
    | true => rfl
    | false => simpa using ih

theorem posV_hit {l : List Vl} {n : Int} {j : Nat} (hj : j < l.length) (h : j ≤ posV l n) (hk : l[j].v = n) : findV l n = some l[j] := by
  rw [find_pos]
  have : posV l n = j := by
    unfold posV at *
    by_cases e : j < l.findIdx (fun x => x.v == n)
    · have := List.not_of_lt_findIdx e
      simp [hk] at this
    · omega
  rw [this]
  exact List.getElem?_eq_getElem hj

theorem posV_miss {l : List Vl} {n : Int} {j : Nat} (hj : j < l.length) (h : j ≤ posV l n) (hk : ¬ l[j].v = n) : j + 1 ≤ posV l n := by
  unfold posV at *
  by_cases e : j < l.findIdx (fun x => x.v == n)
  · omega
  · have e2 : l.findIdx (fun x => x.v == n) = j := by omega
    have := List.findIdx_getElem (xs := l) (p := fun x => x.v == n) (w := by omega)
    simp only [e2] at this
    simp [hk] at this

theorem posV_end {l : List Vl} {n : Int} (h : l.length ≤ posV l n) : findV l n = none := by
  rw [find_pos]
  exact List.getElem?_eq_none h

/-- A VLAN of its own; which frames a port takes. -/
def ownF (g : Bool) (u : Int) : Bool := g && decide (0 < u)
def admF (t : Int) (w : Bool) : Bool := if t = 1 then w else if t = 2 then !w else true

/-- Of which VLAN a frame is at a port. -/
def vidF (own : Int) (g : Bool) (u : Int) : Int := if g = true ∧ 0 < u then u else own

def takB (o k : Nat → Int) (l : List Vl) (port : Int) (g : Bool) (u : Int) : Bool :=
  decide (0 ≤ port ∧ port < 8) && (admF (k port.toNat) (ownF g u) && (decide (vidF (o port.toNat) g u ≤ 4094) && Por.hasZ (Por.low (ofV l (vidF (o port.toNat) g u))) port))
def takV (o k : Nat → Int) (l : List Vl) (port : Int) (g : Bool) (u : Int) : Int := if takB o k l port g u then vidF (o port.toNat) g u else 0

/-- Whether a port sends with a tag, without one, at all. -/
def sndT (l : List Vl) (n port : Int) : Bool := Por.hasZ (Por.low (gotV l n).t) port
def sndU (l : List Vl) (n port : Int) : Bool := Por.hasZ (Por.low (gotV l n).u) port
def sndB (l : List Vl) (n port : Int) : Bool := sndT l n port || sndU l n port

/-- What is right. -/
def rVid (n : Int) : Bool := decide (1 ≤ n ∧ n ≤ 4094)
def rSet (n : Int) : Bool := decide (0 ≤ n ∧ n ≤ 255)
def rTake (n : Int) : Bool := decide (n = 0 ∨ n = 1 ∨ n = 2)
def rVl (x : Vl) : Bool := rVid x.v && (rSet x.t && (rSet x.u && (bits .and .i64 x.t x.u == 0)))
def okN (l : List Vl) (j : Nat) : Bool :=
  match l[j]? with
  | none => true
  | some x => rVl x && (match j with
    | 0 => true
    | i + 1 => match l[i]? with
      | none => true
      | some y => decide (y.v < x.v))
def portN (o k : Nat → Int) (i : Nat) : Bool := rVid (o i) && rTake (k i)
def rightP (o k : Nat → Int) (l : List Vl) : Bool := decide (l.length ≤ 64) && ((List.range l.length).all (okN l) && (List.range 8).all (portN o k))

theorem has_or (a b p : Nat) : Por.hasN (a ||| b) p = (Por.hasN a p || Por.hasN b p) := by
  have e : ∀ m : Nat, Por.hasN m p = m.testBit p := fun m => by
    unfold Por.hasN
    rw [Nat.testBit_eq_decide_div_mod_eq]
    rfl
  rw [e, e, e, Nat.testBit_or]

theorem hasZ_or (a b : Nat) (p : Int) : Por.hasZ (a ||| b) p = (Por.hasZ a p || Por.hasZ b p) := by
  unfold Por.hasZ
  rw [has_or]
  cases decide (0 ≤ p ∧ p < 8) <;> simp

theorem snd_of (l : List Vl) (n port : Int) : Por.hasZ (Por.low (ofV l n)) port = sndB l n port := by
  unfold ofV sndB sndT sndU
  rw [Por.low_or, hasZ_or]

/-- What is found in a right plan is right. -/
theorem right_all {o k : Nat → Int} {l : List Vl} (h : rightP o k l = true) : (∀ j, j < l.length → okN l j = true) ∧ (∀ i, i < 8 → portN o k i = true) ∧ l.length ≤ 64 := by
  unfold rightP at h
  simp only [Bool.and_eq_true, decide_eq_true_eq, List.all_eq_true, List.mem_range] at h
  exact ⟨h.2.1, h.2.2, h.1⟩

theorem right_vl {o k : Nat → Int} {l : List Vl} (h : rightP o k l = true) {x : Vl} (hx : x ∈ l) : rVl x = true := by
  obtain ⟨j, hj, rfl⟩ := List.getElem_of_mem hx
  have := (right_all h).1 j hj
  unfold okN at this
  rw [List.getElem?_eq_getElem hj] at this
  simp only [Bool.and_eq_true] at this
  exact this.1

theorem right_found {o k : Nat → Int} {l : List Vl} (h : rightP o k l = true) {n port : Int} (hs : sndB l n port = true) : 1 ≤ n ∧ n ≤ 4094 := by
  cases hf : findV l n with
  | none =>
    unfold sndB sndT sndU gotV at hs
    rw [hf] at hs
    simp [none3, Por.hasZ, Por.hasN, Por.low] at hs
  | some x =>
    have hm : x ∈ l := List.mem_of_find?_eq_some hf
    have hv : x.v = n := by simpa using List.find?_some hf
    have := right_vl h hm
    unfold rVl rVid at this
    simp only [Bool.and_eq_true, decide_eq_true_eq] at this
    omega

theorem right_port {o k : Nat → Int} {l : List Vl} (h : rightP o k l = true) {i : Nat} (hi : i < 8) : 1 ≤ o i ∧ o i ≤ 4094 ∧ (k i = 0 ∨ k i = 1 ∨ k i = 2) := by
  have := (right_all h).2.1 i hi
  unfold portN rVid rTake at this
  simp only [Bool.and_eq_true, decide_eq_true_eq] at this
  omega

/-- What a port takes is of a VLAN that it is of. -/
theorem taken_of {o k : Nat → Int} {l : List Vl} (h : rightP o k l = true) {port : Nat} (hp : port < 8) {g : Bool} {u : Int} (ht : takB o k l port g u = true) :
    Por.hasZ (Por.low (ofV l (takV o k l port g u))) port = true ∧ 1 ≤ takV o k l port g u := by
  have hv : takV o k l port g u = vidF (o port) g u := by unfold takV; rw [if_pos ht]; rfl
  rw [hv]
  unfold takB at ht
  simp only [Bool.and_eq_true] at ht
  refine ⟨ht.2.2.2, ?_⟩
  unfold vidF
  split
  · omega
  · exact (right_port h hp).1

/-- What a port sends is taken as of the same VLAN. -/
theorem sent_taken {o k : Nat → Int} {l : List Vl} {n : Int} (h1 : 1 ≤ n ∧ n ≤ 4094) {to : Nat} (hp : to < 8) {g : Bool} {u : Int} (hg : vidF (o to) g u = n) :
    (takB o k l to g u = true → takV o k l to g u = n) ∧ (takB o k l to g u = false → k to = 0 → Por.hasZ (Por.low (ofV l n)) to = false) := by
  refine ⟨fun ht => ?_, fun ht hk => ?_⟩
  · unfold takV
    rw [if_pos ht]
    exact hg
  · unfold takB at ht
    have e1 : decide (0 ≤ (to : Int) ∧ (to : Int) < 8) = true := decide_eq_true (by omega)
    have e2 : admF (k ((to : Int).toNat)) (ownF g u) = true := by unfold admF; rw [Int.toNat_natCast, hk]; rfl
    rw [e1, e2, Int.toNat_natCast, hg] at ht
    have e3 : decide (n ≤ 4094) = true := decide_eq_true h1.2
    rw [e3] at ht
    simpa using ht

end Mem
end Go.Proofs.Ytbighadkcmhplaa
