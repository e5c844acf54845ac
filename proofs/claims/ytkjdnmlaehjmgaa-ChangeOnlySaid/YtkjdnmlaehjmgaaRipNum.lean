/-
  How states follow roles (plain): what each step makes of a port, of a bridge, and what stands when nothing changes any more.
-/
import Derived.Test.YtkjdnmlaehjmgaaEltF
namespace Go.Proofs.Ytkjdnmlaehjmgaa
open Go.RowKit
namespace Rip
open Pre Crd Tre Elt

def ledB (c : Cd) : Bool := c.up && decide (c.role = 3) && !c.edge
def inS (c : Cd) (s : Int) : Cd := if c.st = s then c else { c with st := s, tel := true }
def disC (c : Cd) : Cd := { inS c 0 with wai := (inS c 0).t.d }
def forC (c : Cd) : Cd := { inS c 2 with wai := 0 }
def agrC (c : Cd) : Cd := { c with prd := false, agr := true, tel := true }
def altD (c : Cd) : Cd := if c.st = 0 then c else disC c
def altC (c : Cd) : Cd := if (altD c).prd = true then agrC (altD c) else altD c
def desS (c : Cd) : Cd := if c.st = 2 then { c with png := false } else if (c.edge || c.agd) = true then forC { c with png := false } else if c.png = true then c else { c with png := true, tel := true }
def synD (c : Cd) : Cd := if (!c.agd && !decide (c.st = 0)) = true then disC c else c
def synC (c : Cd) : Cd := if ledB c = true then { synD c with syd := true } else c
def recC (c : Cd) : Cd := if (!ledB c || c.agd || decide (c.rcn ≤ 0)) = true then c else { disC c with rcn := 0 }
def badB (c : Cd) : Bool := ledB c && !(c.agd && c.syd) && !decide (c.st = 0)

def synT (x : Td) : Td := { x with cs := mixN (fun j => synC (x.cs j)) x.cs 8 }
def recT (x : Td) : Td := { x with cs := mixN (fun j => recC (x.cs j)) x.cs 8 }
def heldN (x : Td) (but : Int) : Nat → Bool
  | 0 => true
  | n + 1 => heldN x but n && !(!decide ((n : Int) = but) && badB (x.cs n))
def heldB (x : Td) (but : Int) : Bool := heldN x but 8

def putT (x : Td) (i : Nat) (c : Cd) : Td := { x with cs := upd x.cs i c }
def agrT (x : Td) (i : Nat) : Td := if heldB x (i : Int) = true then putT x i (agrC (x.cs i)) else x
def rot1 (x : Td) (i : Nat) : Td := if (x.cs i).prd = true then agrT (synT x) i else x
def rot2 (x : Td) (i : Nat) : Td := if (x.cs i).st = 2 then x else putT (recT x) i (forC ((recT x).cs i))
def rot3 (x : Td) (i : Nat) : Td := putT x i { x.cs i with rcn := max (x.cs i).t.d 1 }
def rotT (x : Td) (i : Nat) : Td := rot3 (rot2 (rot1 x i) i) i
def stepN (x : Td) (i : Nat) : Td := if (x.cs i).up = false then x else if (x.cs i).role = 2 then rotT x i else if (x.cs i).role = 3 then putT x i (desS (x.cs i)) else if (x.cs i).role = 1 then putT x i (altC (x.cs i)) else x
def rndN (x : Td) : Nat → Td
  | 0 => x
  | n + 1 => stepN (rndN x n) n
def rndT (x : Td) : Td := rndN x 8
def setN (x : Td) : Nat → Td
  | 0 => x
  | n + 1 => setN (rndT x) n
def setT (x : Td) : Td := setN x 4

def opeB (c : Cd) : Bool := c.up && decide (c.st = 2)
def leaB (c : Cd) : Bool := c.up && decide (1 ≤ c.st)
def opeI (x : Td) : Nat → Int
  | 0 => 0
  | n + 1 => if opeB (x.cs n) = true then Por.withI (opeI x n) n else opeI x n
def leaI (x : Td) : Nat → Int
  | 0 => 0
  | n + 1 => if leaB (x.cs n) = true then Por.withI (leaI x n) n else leaI x n

/-- What a step leaves of a port. -/
def SameC (c d : Cd) : Prop := d.up = c.up ∧ d.role = c.role ∧ d.v = c.v ∧ d.t = c.t ∧ d.edge = c.edge

theorem SameC.refl (c : Cd) : SameC c c := ⟨rfl, rfl, rfl, rfl, rfl⟩
theorem SameC.trans {a b c : Cd} (h : SameC a b) (g : SameC b c) : SameC a c := ⟨g.1.trans h.1, g.2.1.trans h.2.1, g.2.2.1.trans h.2.2.1, g.2.2.2.1.trans h.2.2.2.1, g.2.2.2.2.trans h.2.2.2.2⟩

theorem inS_same (c : Cd) (s : Int) : SameC c (inS c s) ∧ (inS c s).st = s := by
  unfold inS
  split
  · rename_i h; exact ⟨SameC.refl c, h⟩
  · exact ⟨⟨rfl, rfl, rfl, rfl, rfl⟩, rfl⟩

theorem dis_same (c : Cd) : SameC c (disC c) ∧ (disC c).st = 0 := by
  obtain ⟨⟨a, b, d, e, f⟩, g⟩ := inS_same c 0
  exact ⟨⟨a, b, d, e, f⟩, g⟩

theorem for_same (c : Cd) : SameC c (forC c) ∧ (forC c).st = 2 := by
  obtain ⟨⟨a, b, d, e, f⟩, g⟩ := inS_same c 2
  exact ⟨⟨a, b, d, e, f⟩, g⟩

theorem agr_same (c : Cd) : SameC c (agrC c) ∧ (agrC c).st = c.st := ⟨⟨rfl, rfl, rfl, rfl, rfl⟩, rfl⟩

theorem alt_same (c : Cd) : SameC c (altC c) ∧ (altC c).st = 0 := by
  have h : SameC c (altD c) ∧ (altD c).st = 0 := by
    unfold altD
    split
    · rename_i h; exact ⟨SameC.refl c, h⟩
    · exact dis_same c
  unfold altC
  split
  · exact ⟨h.1.trans (agr_same _).1, h.2⟩
  · exact h

theorem des_same (c : Cd) : SameC c (desS c) := by
  unfold desS
  split
  · exact ⟨rfl, rfl, rfl, rfl, rfl⟩
  · split
    · exact (for_same { c with png := false }).1
    · split
      · exact SameC.refl c
      · exact ⟨rfl, rfl, rfl, rfl, rfl⟩

theorem syn_same (c : Cd) : SameC c (synC c) ∧ (ledB c = false → synC c = c) := by
  unfold synC
  split
  · rename_i h
    refine ⟨?_, fun g => by rw [g] at h; cases h⟩
    have hd : SameC c (synD c) := by
      unfold synD
      split
      · exact (dis_same c).1
      · exact SameC.refl c
    exact ⟨hd.1, hd.2.1, hd.2.2.1, hd.2.2.2.1, hd.2.2.2.2⟩
  · exact ⟨SameC.refl c, fun _ => rfl⟩

theorem rec_same (c : Cd) : SameC c (recC c) ∧ (ledB c = false → recC c = c) := by
  unfold recC
  split
  · exact ⟨SameC.refl c, fun _ => rfl⟩
  · rename_i h
    refine ⟨?_, fun g => by rw [g] at h; exact absurd rfl h⟩
    have hd := (dis_same c).1
    exact ⟨hd.1, hd.2.1, hd.2.2.1, hd.2.2.2.1, hd.2.2.2.2⟩

/-- What a step leaves of a bridge: port i may have another state, others only where they lead on. -/
def Same (x y : Td) : Prop := y.id = x.id ∧ y.own = x.own ∧ y.root = x.root ∧ y.times = x.times ∧ y.port = x.port ∧ ∀ j, SameC (x.cs j) (y.cs j)

theorem Same.refl (x : Td) : Same x x := ⟨rfl, rfl, rfl, rfl, rfl, fun _ => SameC.refl _⟩
theorem Same.trans {x y z : Td} (h : Same x y) (g : Same y z) : Same x z := ⟨g.1.trans h.1, g.2.1.trans h.2.1, g.2.2.1.trans h.2.2.1, g.2.2.2.1.trans h.2.2.2.1, g.2.2.2.2.1.trans h.2.2.2.2.1, fun j => (h.2.2.2.2.2 j).trans (g.2.2.2.2.2 j)⟩

/-- Ports that don't lead on stay as they are, but for port i. -/
def Kept (x y : Td) (i : Nat) : Prop := ∀ j, j ≠ i → ledB (x.cs j) = false → y.cs j = x.cs j

theorem Kept.refl (x : Td) (i : Nat) : Kept x x i := fun _ _ _ => rfl
theorem led_same {c d : Cd} (h : SameC c d) : ledB d = ledB c := by unfold ledB; rw [h.1, h.2.1, h.2.2.2.2]
theorem Kept.trans {x y z : Td} {i : Nat} (hs : Same x y) (h : Kept x y i) (g : Kept y z i) : Kept x z i := fun j hj hl => by
  rw [g j hj (by rw [led_same (hs.2.2.2.2.2 j)]; exact hl), h j hj hl]

theorem mix_at (g f : Nat → Cd) (k j : Nat) : mixN g f k j = if j < k then g j else f j := rfl

theorem syn_all (x : Td) (i : Nat) : Same x (synT x) ∧ Kept x (synT x) i := by
  refine ⟨⟨rfl, rfl, rfl, rfl, rfl, fun j => ?_⟩, fun j _ hl => ?_⟩
  · show SameC (x.cs j) (mixN (fun j => synC (x.cs j)) x.cs 8 j)
    rw [mix_at]
    split
    · exact (syn_same _).1
    · exact SameC.refl _
  · show mixN (fun j => synC (x.cs j)) x.cs 8 j = _
    rw [mix_at]
    split
    · exact (syn_same _).2 hl
    · rfl

theorem rec_all (x : Td) (i : Nat) : Same x (recT x) ∧ Kept x (recT x) i := by
  refine ⟨⟨rfl, rfl, rfl, rfl, rfl, fun j => ?_⟩, fun j _ hl => ?_⟩
  · show SameC (x.cs j) (mixN (fun j => recC (x.cs j)) x.cs 8 j)
    rw [mix_at]
    split
    · exact (rec_same _).1
    · exact SameC.refl _
  · show mixN (fun j => recC (x.cs j)) x.cs 8 j = _
    rw [mix_at]
    split
    · exact (rec_same _).2 hl
    · rfl

theorem put_all (x : Td) (i : Nat) (c : Cd) (h : SameC (x.cs i) c) : Same x (putT x i c) ∧ Kept x (putT x i c) i ∧ (putT x i c).cs i = c := by
  refine ⟨⟨rfl, rfl, rfl, rfl, rfl, fun j => ?_⟩, fun j hj _ => ?_, ?_⟩
  · show SameC (x.cs j) (upd x.cs i c j)
    unfold upd
    split
    · rename_i e; rw [e]; exact h
    · exact SameC.refl _
  · show upd x.cs i c j = _
    unfold upd
    rw [if_neg hj]
  · show upd x.cs i c i = c
    unfold upd
    rw [if_pos rfl]

/-- The root port's own step. -/
theorem rot_all (x : Td) (i : Nat) : Same x (rotT x i) ∧ Kept x (rotT x i) i ∧ ((rotT x i).cs i).st = 2 := by
  unfold rotT
  have h1 : Same x (rot1 x i) ∧ Kept x (rot1 x i) i := by
    unfold rot1
    split
    · have a := syn_all x i
      unfold agrT
      split
      · have b := put_all (synT x) i _ (agr_same ((synT x).cs i)).1
        exact ⟨a.1.trans b.1, Kept.trans a.1 a.2 b.2.1⟩
      · exact a
    · exact ⟨Same.refl x, Kept.refl x i⟩
  generalize rot1 x i = y at *
  have h2 : Same y (rot2 y i) ∧ Kept y (rot2 y i) i ∧ ((rot2 y i).cs i).st = 2 := by
    unfold rot2
    split
    · rename_i h; exact ⟨Same.refl y, Kept.refl y i, h⟩
    · have a := rec_all y i
      have b := put_all (recT y) i _ (for_same ((recT y).cs i)).1
      exact ⟨a.1.trans b.1, Kept.trans a.1 a.2 b.2.1, by rw [b.2.2]; exact (for_same _).2⟩
  generalize rot2 y i = z at *
  have b := put_all z i { z.cs i with rcn := max (z.cs i).t.d 1 } ⟨rfl, rfl, rfl, rfl, rfl⟩
  unfold rot3
  exact ⟨(h1.1.trans h2.1).trans b.1, Kept.trans (h1.1.trans h2.1) (Kept.trans h1.1 h1.2 h2.2.1) b.2.1, by rw [b.2.2]; exact h2.2.2⟩

/-- A port stands as its role asks. -/
def Good (c : Cd) : Prop := c.up = true → (c.role = 2 → c.st = 2) ∧ (c.role = 1 → c.st = 0)

theorem step_all (x : Td) (i : Nat) : Same x (stepN x i) ∧ Kept x (stepN x i) i ∧ Good ((stepN x i).cs i) := by
  unfold stepN
  split
  · rename_i h; exact ⟨Same.refl x, Kept.refl x i, fun g => by rw [h] at g; cases g⟩
  · split
    · rename_i h
      obtain ⟨a, b, c⟩ := rot_all x i
      exact ⟨a, b, fun _ => ⟨fun _ => c, fun e => by rw [(a.2.2.2.2.2 i).2.1, h] at e; cases e⟩⟩
    · split
      · rename_i h
        obtain ⟨a, b, c⟩ := put_all x i _ (des_same (x.cs i))
        refine ⟨a, b, fun _ => ⟨fun e => ?_, fun e => ?_⟩⟩ <;> rw [(a.2.2.2.2.2 i).2.1, h] at e <;> cases e
      · split
        · rename_i h
          obtain ⟨a, b, c⟩ := put_all x i _ (alt_same (x.cs i)).1
          refine ⟨a, b, fun _ => ⟨fun e => ?_, fun _ => by rw [c]; exact (alt_same _).2⟩⟩
          rw [(a.2.2.2.2.2 i).2.1, h] at e
          cases e
        · rename_i h1 h2 h3
          exact ⟨Same.refl x, Kept.refl x i, fun _ => ⟨fun e => absurd e h1, fun e => absurd e h3⟩⟩

theorem step_good (x : Td) (i j : Nat) (h : Good (x.cs j)) : Good ((stepN x i).cs j) := by
  obtain ⟨a, b, c⟩ := step_all x i
  by_cases e : j = i
  · rw [e]; exact c
  · intro hu
    rw [(a.2.2.2.2.2 j).2.1]
    rw [(a.2.2.2.2.2 j).1] at hu
    refine ⟨fun g => ?_, fun g => ?_⟩ <;> rw [b j e (by unfold ledB; rw [g]; simp)]
    · exact (h hu).1 g
    · exact (h hu).2 g

theorem rndN_good (x : Td) : ∀ n, Same x (rndN x n) ∧ ∀ j, j < n → Good ((rndN x n).cs j)
  | 0 => ⟨Same.refl x, fun j h => by omega⟩
  | n + 1 => by
    have ih := rndN_good x n
    rw [rndN]
    generalize rndN x n = y at *
    obtain ⟨a, _, c⟩ := step_all y n
    refine ⟨ih.1.trans a, fun j hj => ?_⟩
    by_cases e : j = n
    · rw [e]; exact c
    · exact step_good y n j (ih.2 j (by omega))

theorem rnd_same (x : Td) : Same x (rndT x) := (rndN_good x 8).1
theorem rnd_good (x : Td) : ∀ j, j < 8 → Good ((rndT x).cs j) := (rndN_good x 8).2

theorem set_good (x : Td) : Same x (setT x) ∧ ∀ j, j < 8 → Good ((setT x).cs j) := by
  have a := rnd_same x
  have b := rnd_same (rndT x)
  have c := rnd_same (rndT (rndT x))
  have d := rnd_same (rndT (rndT (rndT x)))
  exact ⟨((a.trans b).trans c).trans d, rnd_good (rndT (rndT (rndT x)))⟩

/-- What lies beyond the eight ports is never touched; and only the eight count. -/
def Eq8 (x y : Td) : Prop := y.id = x.id ∧ y.own = x.own ∧ y.root = x.root ∧ y.times = x.times ∧ y.port = x.port ∧ ∀ j, j < 8 → y.cs j = x.cs j

theorem Eq8.tdl {x y : Td} (h : Eq8 x y) : tdl x = tdl y := by
  obtain ⟨a, b, c, d, e, f⟩ := h
  rw [tdl_ext x y.cs (fun i hi => (f i hi).symm)]
  cases x; cases y
  simp only at a b c d e
  subst a b c d e
  rfl

theorem Eq8.put {x y : Td} (h : Eq8 x y) (i : Nat) {c d : Cd} (hc : d = c) : Eq8 (putT x i c) (putT y i d) := by
  refine ⟨h.1, h.2.1, h.2.2.1, h.2.2.2.1, h.2.2.2.2.1, fun j hj => ?_⟩
  show upd y.cs i d j = upd x.cs i c j
  unfold upd
  split
  · exact hc
  · exact h.2.2.2.2.2 j hj

theorem held_eq {x y : Td} (h : Eq8 x y) (but : Int) : ∀ n, n ≤ 8 → heldN y but n = heldN x but n
  | 0, _ => rfl
  | n + 1, hn => by rw [heldN, heldN, held_eq h but n (by omega), h.2.2.2.2.2 n (by omega)]

theorem Eq8.syn {x y : Td} (h : Eq8 x y) : Eq8 (synT x) (synT y) := by
  refine ⟨h.1, h.2.1, h.2.2.1, h.2.2.2.1, h.2.2.2.2.1, fun j hj => ?_⟩
  show mixN (fun j => synC (y.cs j)) y.cs 8 j = mixN (fun j => synC (x.cs j)) x.cs 8 j
  rw [mix_at, mix_at, if_pos hj, if_pos hj, h.2.2.2.2.2 j hj]

theorem Eq8.rec {x y : Td} (h : Eq8 x y) : Eq8 (recT x) (recT y) := by
  refine ⟨h.1, h.2.1, h.2.2.1, h.2.2.2.1, h.2.2.2.2.1, fun j hj => ?_⟩
  show mixN (fun j => recC (y.cs j)) y.cs 8 j = mixN (fun j => recC (x.cs j)) x.cs 8 j
  rw [mix_at, mix_at, if_pos hj, if_pos hj, h.2.2.2.2.2 j hj]

theorem Eq8.rot {x y : Td} (h : Eq8 x y) (i : Nat) (hi : i < 8) : Eq8 (rotT x i) (rotT y i) := by
  have h1 : Eq8 (rot1 x i) (rot1 y i) := by
    unfold rot1
    rw [h.2.2.2.2.2 i hi]
    split
    · have g := h.syn
      unfold agrT heldB
      rw [held_eq g (i : Int) 8 (Nat.le_refl _)]
      split
      · exact g.put i (by rw [g.2.2.2.2.2 i hi])
      · exact g
    · exact h
  have h2 : ∀ {a b : Td}, Eq8 a b → Eq8 (rot2 a i) (rot2 b i) := fun {a b} k => by
    unfold rot2
    rw [k.2.2.2.2.2 i hi]
    split
    · exact k
    · exact k.rec.put i (by rw [k.rec.2.2.2.2.2 i hi])
  have h3 : ∀ {a b : Td}, Eq8 a b → Eq8 (rot3 a i) (rot3 b i) := fun {a b} k => by
    unfold rot3
    exact k.put i (by rw [k.2.2.2.2.2 i hi])
  exact h3 (h2 h1)

theorem Eq8.step {x y : Td} (h : Eq8 x y) (i : Nat) (hi : i < 8) : Eq8 (stepN x i) (stepN y i) := by
  unfold stepN
  rw [h.2.2.2.2.2 i hi]
  split
  · exact h
  · split
    · exact h.rot i hi
    · split
      · exact h.put i rfl
      · split
        · exact h.put i rfl
        · exact h

theorem Eq8.rndN {x y : Td} (h : Eq8 x y) : ∀ n, n ≤ 8 → Eq8 (rndN x n) (rndN y n)
  | 0, _ => h
  | n + 1, hn => (Eq8.rndN h n (by omega)).step n (by omega)

theorem Eq8.rnd {x y : Td} (h : Eq8 x y) : Eq8 (rndT x) (rndT y) := h.rndN 8 (Nat.le_refl _)
theorem Eq8.refl (x : Td) : Eq8 x x := ⟨rfl, rfl, rfl, rfl, rfl, fun _ _ => rfl⟩
theorem Eq8.symm {x y : Td} (h : Eq8 x y) : Eq8 y x := ⟨h.1.symm, h.2.1.symm, h.2.2.1.symm, h.2.2.2.1.symm, h.2.2.2.2.1.symm, fun j hj => (h.2.2.2.2.2 j hj).symm⟩
theorem Eq8.trans {x y z : Td} (h : Eq8 x y) (g : Eq8 y z) : Eq8 x z := ⟨g.1.trans h.1, g.2.1.trans h.2.1, g.2.2.1.trans h.2.2.1, g.2.2.2.1.trans h.2.2.2.1, g.2.2.2.2.1.trans h.2.2.2.2.1, fun j hj => (g.2.2.2.2.2 j hj).trans (h.2.2.2.2.2 j hj)⟩

/-- Where a round changes nothing no more rounds do. -/
theorem setN_still (y : Td) (h : Eq8 (rndT y) y) : ∀ n, Eq8 (setN y n) y
  | 0 => Eq8.refl y
  | n + 1 => by
    have g : ∀ {a b : Td} (m : Nat), Eq8 a b → Eq8 (setN a m) (setN b m) := fun {a b} m => by
      induction m generalizing a b with
      | zero => exact id
      | succ m ih => exact fun k => ih k.rnd
    exact (g n h).trans (setN_still y h n)

theorem setN_eq {x y : Td} : ∀ n, Eq8 x y → Eq8 (setN x n) (setN y n)
  | 0, h => h
  | n + 1, h => setN_eq n h.rnd

/-- Sets as bits. -/
abbrev V64 (x : Int) : BitVec IntKind.i64.bits := BitVec.ofInt IntKind.i64.bits x

theorem with_bits (x : Int) (n : Nat) (hn : n < 8) : V64 (Por.withI x n) = V64 x ||| V64 (2 ^ n) := by
  unfold Por.withI
  rw [if_pos (by omega), show ((n : Int)).toNat = n from rfl]
  exact Por.ofInt_wrap _

theorem sub_both (A B P : BitVec IntKind.i64.bits) (h : A ||| B = B) : (A ||| P) ||| (B ||| P) = B ||| P := by
  refine BitVec.eq_of_getLsbD_eq fun i hi => ?_
  have g := congrArg (fun v => v.getLsbD i) h
  simp only [BitVec.getLsbD_or] at g ⊢
  revert g
  cases A.getLsbD i <;> cases B.getLsbD i <;> cases P.getLsbD i <;> simp

theorem sub_right (A B P : BitVec IntKind.i64.bits) (h : A ||| B = B) : A ||| (B ||| P) = B ||| P := by
  refine BitVec.eq_of_getLsbD_eq fun i hi => ?_
  have g := congrArg (fun v => v.getLsbD i) h
  simp only [BitVec.getLsbD_or] at g ⊢
  revert g
  cases A.getLsbD i <;> cases B.getLsbD i <;> cases P.getLsbD i <;> simp

theorem sub_none (A B : BitVec IntKind.i64.bits) (h : A ||| B = B) : A &&& ~~~B = 0 := by
  refine BitVec.eq_of_getLsbD_eq fun i hi => ?_
  have g := congrArg (fun v => v.getLsbD i) h
  simp only [BitVec.getLsbD_or] at g
  rw [BitVec.getLsbD_and, BitVec.getLsbD_not]
  revert g
  cases A.getLsbD i <;> cases B.getLsbD i <;> simp

theorem open_learn (x : Td) : ∀ n, n ≤ 8 → V64 (opeI x n) ||| V64 (leaI x n) = V64 (leaI x n)
  | 0, _ => by
    show V64 0 ||| V64 0 = V64 0
    exact BitVec.or_self
  | n + 1, hn => by
    have ih := open_learn x n (by omega)
    rw [opeI, leaI]
    cases ho : opeB (x.cs n) with
    | true =>
      have hl : leaB (x.cs n) = true := by
        unfold opeB at ho
        unfold leaB
        simp at ho ⊢
        exact ⟨ho.1, by omega⟩
      rw [hl, if_pos rfl, if_pos rfl, with_bits _ n (by omega), with_bits _ n (by omega)]
      exact sub_both _ _ _ ih
    | false =>
      rw [if_neg (by simp)]
      cases hl : leaB (x.cs n) with
      | true =>
        rw [if_pos rfl, with_bits _ n (by omega)]
        exact sub_right _ _ _ ih
      | false =>
        rw [if_neg (by simp)]
        exact ih

/-- Who forwards learns. -/
theorem open_not (x : Td) : bits .andNot .i64 (opeI x 8) (leaI x 8) = 0 := by
  show IntKind.i64.wrap ((V64 (opeI x 8) &&& ~~~(V64 (leaI x 8))).toNat : Int) = 0
  rw [sub_none _ _ (open_learn x 8 (Nat.le_refl _))]
  rfl

end Rip
end Go.Proofs.Ytkjdnmlaehjmgaa
