/-
  A port's timers (plain): what a tick makes of a port, how long what was heard is good, and how long a designated port waits.
-/
import Derived.Test.YtakbmdamegjdeaaCrd
namespace Go.Proofs.Ytakbmdamegjdeaa
open Go.RowKit
namespace Clk
open Pre Crd

def dnI (n : Int) : Int := if n ≤ 0 then 0 else n - 1
/-- The timers, in the order in which they are gone through. -/
def offN : Nat → Nat
  | 0 => 25
  | 1 => 27
  | 2 => 28
  | 3 => 29
  | 4 => 30
  | 5 => 24
  | _ => 26
def fldI (c : Cd) : Nat → Int
  | 0 => c.wai
  | 1 => c.chg
  | 2 => c.qui
  | 3 => c.sen
  | 4 => c.hel
  | 5 => c.hrd
  | _ => c.rcn
def putF (c : Cd) (k : Nat) (v : Int) : Cd :=
  match k with
  | 0 => { c with wai := v }
  | 1 => { c with chg := v }
  | 2 => { c with qui := v }
  | 3 => { c with sen := v }
  | 4 => { c with hel := v }
  | 5 => { c with hrd := v }
  | _ => { c with rcn := v }
def tmrN (c : Cd) : Nat → Cd
  | 0 => c
  | k + 1 => putF (tmrN c k) k (dnI (fldI (tmrN c k) k))
def tmrC (c : Cd) : Cd := { c with wai := dnI c.wai, chg := dnI c.chg, qui := dnI c.qui, sen := dnI c.sen, hel := dnI c.hel, hrd := dnI c.hrd, rcn := if c.role = 2 then c.rcn else dnI c.rcn }
def oldB (c : Cd) : Bool := decide (c.info = 2) && decide (c.hrd = 0)
def ageC (c : Cd) : Cd := if oldB c = true then { c with info := 0 } else c
def movC (c : Cd) : Cd := if c.up = true ∧ c.role = 3 ∧ c.st < 2 ∧ c.wai ≤ 0 then (if c.st + 1 = 2 then { c with st := c.st + 1, tel := true } else { c with st := c.st + 1, tel := true, wai := c.t.d }) else c
def edgC (c : Cd) : Cd := if c.up = true ∧ c.role = 3 ∧ ¬ c.st = 2 ∧ c.png = true ∧ c.qui = 0 then { c with edge := true } else c
def tckC (c : Cd) : Cd := if c.up = true then edgC (movC (ageC (tmrC c))) else c
def tckB (c : Cd) : Bool := c.up && oldB (tmrC c)

theorem fld_at (c : Cd) : ∀ k, k < 7 → (cdl c)[offN k]? = some (.int .i64 (fldI c k))
  | 0, _ => rfl
  | 1, _ => rfl
  | 2, _ => rfl
  | 3, _ => rfl
  | 4, _ => rfl
  | 5, _ => rfl
  | 6, _ => rfl
  | k + 7, h => by omega

theorem put_set (c : Cd) (v : Int) : ∀ k, k < 7 → (cdl c).set (offN k) (.int .i64 v) = cdl (putF c k v)
  | 0, _ => rfl
  | 1, _ => rfl
  | 2, _ => rfl
  | 3, _ => rfl
  | 4, _ => rfl
  | 5, _ => rfl
  | 6, _ => rfl
  | k + 7, h => by omega

theorem tmr_six (c : Cd) : tmrN c 6 = { c with wai := dnI c.wai, chg := dnI c.chg, qui := dnI c.qui, sen := dnI c.sen, hel := dnI c.hel, hrd := dnI c.hrd } := by
  have e1 : tmrN c 1 = { c with wai := dnI c.wai } := rfl
  have e2 : tmrN c 2 = { c with wai := dnI c.wai, chg := dnI c.chg } := by
    rw [show tmrN c 2 = putF (tmrN c 1) 1 (dnI (fldI (tmrN c 1) 1)) from rfl, e1]
    rfl
  have e3 : tmrN c 3 = { c with wai := dnI c.wai, chg := dnI c.chg, qui := dnI c.qui } := by
    rw [show tmrN c 3 = putF (tmrN c 2) 2 (dnI (fldI (tmrN c 2) 2)) from rfl, e2]
    rfl
  have e4 : tmrN c 4 = { c with wai := dnI c.wai, chg := dnI c.chg, qui := dnI c.qui, sen := dnI c.sen } := by
    rw [show tmrN c 4 = putF (tmrN c 3) 3 (dnI (fldI (tmrN c 3) 3)) from rfl, e3]
    rfl
  have e5 : tmrN c 5 = { c with wai := dnI c.wai, chg := dnI c.chg, qui := dnI c.qui, sen := dnI c.sen, hel := dnI c.hel } := by
    rw [show tmrN c 5 = putF (tmrN c 4) 4 (dnI (fldI (tmrN c 4) 4)) from rfl, e4]
    rfl
  rw [show tmrN c 6 = putF (tmrN c 5) 5 (dnI (fldI (tmrN c 5) 5)) from rfl, e5]
  rfl

theorem tmr_root (c : Cd) (h : c.role = 2) : tmrN c 6 = tmrC c := by
  rw [tmr_six]
  unfold tmrC
  rw [if_pos h]

theorem tmr_other (c : Cd) (h : ¬ c.role = 2) : tmrN c 7 = tmrC c := by
  rw [show tmrN c 7 = putF (tmrN c 6) 6 (dnI (fldI (tmrN c 6) 6)) from rfl, tmr_six]
  unfold tmrC
  rw [if_neg h]
  rfl

/-- What a machine's numbers keep: the state can be raised, a timer lowered. -/
def Ok (c : Cd) : Prop := -9223372036854775808 ≤ c.st ∧ c.wai ≤ 9223372036854775807 ∧ c.chg ≤ 9223372036854775807 ∧ c.qui ≤ 9223372036854775807 ∧ c.sen ≤ 9223372036854775807 ∧ c.hel ≤ 9223372036854775807 ∧ c.hrd ≤ 9223372036854775807 ∧ c.rcn ≤ 9223372036854775807 ∧ c.t.d ≤ 9223372036854775807

theorem fld_ok (c : Cd) (h : Ok c) : ∀ k, k < 7 → fldI c k ≤ 9223372036854775807
  | 0, _ => h.2.1
  | 1, _ => h.2.2.1
  | 2, _ => h.2.2.2.1
  | 3, _ => h.2.2.2.2.1
  | 4, _ => h.2.2.2.2.2.1
  | 5, _ => h.2.2.2.2.2.2.1
  | 6, _ => h.2.2.2.2.2.2.2.1
  | k + 7, h => by omega

theorem ok_put (c : Cd) (v : Int) (hv : v ≤ 9223372036854775807) (h : Ok c) (k : Nat) : Ok (putF c k v) := by
  obtain ⟨h1, h2, h3, h4, h5, h6, h7, h8, h9⟩ := h
  match k with
  | 0 => exact ⟨h1, hv, h3, h4, h5, h6, h7, h8, h9⟩
  | 1 => exact ⟨h1, h2, hv, h4, h5, h6, h7, h8, h9⟩
  | 2 => exact ⟨h1, h2, h3, hv, h5, h6, h7, h8, h9⟩
  | 3 => exact ⟨h1, h2, h3, h4, hv, h6, h7, h8, h9⟩
  | 4 => exact ⟨h1, h2, h3, h4, h5, hv, h7, h8, h9⟩
  | 5 => exact ⟨h1, h2, h3, h4, h5, h6, hv, h8, h9⟩
  | k + 6 => exact ⟨h1, h2, h3, h4, h5, h6, h7, hv, h9⟩

theorem dn_le {n : Int} (h : n ≤ 9223372036854775807) : dnI n ≤ 9223372036854775807 := by unfold dnI; split <;> omega

theorem ok_tmrN {c : Cd} (h : Ok c) : ∀ k, k ≤ 7 → Ok (tmrN c k)
  | 0, _ => h
  | k + 1, hk => ok_put _ _ (dn_le (fld_ok _ (ok_tmrN h k (by omega)) k (by omega))) (ok_tmrN h k (by omega)) k

theorem ok_tmr {c : Cd} (h : Ok c) : Ok (tmrC c) := by
  obtain ⟨h1, h2, h3, h4, h5, h6, h7, h8, h9⟩ := h
  refine ⟨h1, dn_le h2, dn_le h3, dn_le h4, dn_le h5, dn_le h6, dn_le h7, ?_, h9⟩
  show (if c.role = 2 then c.rcn else dnI c.rcn) ≤ _
  split
  · exact h8
  · exact dn_le h8

theorem ok_age {c : Cd} (h : Ok c) : Ok (ageC c) := by unfold ageC; split <;> exact h

theorem ok_mov {c : Cd} (h : Ok c) : Ok (movC c) := by
  obtain ⟨h1, h2, h3, h4, h5, h6, h7, h8, h9⟩ := h
  unfold movC
  split
  · split
    · exact ⟨show _ ≤ c.st + 1 by omega, h2, h3, h4, h5, h6, h7, h8, h9⟩
    · exact ⟨show _ ≤ c.st + 1 by omega, h9, h3, h4, h5, h6, h7, h8, h9⟩
  · exact ⟨h1, h2, h3, h4, h5, h6, h7, h8, h9⟩

theorem ok_edg {c : Cd} (h : Ok c) : Ok (edgC c) := by unfold edgC; split <;> exact h

theorem ok_tck {c : Cd} (h : Ok c) : Ok (tckC c) := by
  unfold tckC
  split
  · exact ok_edg (ok_mov (ok_age (ok_tmr h)))
  · exact h

theorem mov_kept (c : Cd) : (movC c).up = c.up ∧ (movC c).info = c.info ∧ (movC c).hrd = c.hrd ∧ (movC c).role = c.role ∧ (movC c).t = c.t := by
  unfold movC
  split
  · split <;> exact ⟨rfl, rfl, rfl, rfl, rfl⟩
  · exact ⟨rfl, rfl, rfl, rfl, rfl⟩

theorem edg_kept (c : Cd) : (edgC c).up = c.up ∧ (edgC c).info = c.info ∧ (edgC c).hrd = c.hrd ∧ (edgC c).role = c.role ∧ (edgC c).t = c.t ∧ (edgC c).st = c.st ∧ (edgC c).wai = c.wai := by
  unfold edgC
  split <;> exact ⟨rfl, rfl, rfl, rfl, rfl, rfl, rfl⟩

theorem age_kept (c : Cd) : (ageC c).up = c.up ∧ (ageC c).hrd = c.hrd ∧ (ageC c).role = c.role ∧ (ageC c).t = c.t ∧ (ageC c).st = c.st ∧ (ageC c).wai = c.wai := by
  unfold ageC
  split <;> exact ⟨rfl, rfl, rfl, rfl, rfl, rfl⟩

/-- What a port up is behind a tick. -/
theorem tck_is {c : Cd} (h : c.up = true) : (tckC c).up = true ∧ (tckC c).info = (if c.info = 2 ∧ dnI c.hrd = 0 then 0 else c.info) ∧ (tckC c).hrd = dnI c.hrd ∧ (tckC c).role = c.role ∧ (tckC c).t = c.t := by
  unfold tckC
  rw [if_pos h]
  obtain ⟨a1, a2, a3, a4, a5, _⟩ := edg_kept (movC (ageC (tmrC c)))
  obtain ⟨b1, b2, b3, b4, b5⟩ := mov_kept (ageC (tmrC c))
  obtain ⟨c1, c3, c4, c5, _⟩ := age_kept (tmrC c)
  rw [a1, a2, a3, a4, a5, b1, b2, b3, b4, b5, c1, c3, c4, c5]
  refine ⟨h, ?_, rfl, rfl, rfl⟩
  have e : oldB (tmrC c) = (decide (c.info = 2) && decide (dnI c.hrd = 0)) := rfl
  unfold ageC
  by_cases h1 : c.info = 2 ∧ dnI c.hrd = 0
  · rw [if_pos h1, if_pos (show oldB (tmrC c) = true by rw [e]; simpa using h1)]
  · rw [if_neg h1, if_neg (show ¬ oldB (tmrC c) = true by rw [e]; simpa using h1)]
    rfl

/-- What was heard, good for n ticks more. -/
def Aged (c : Cd) (n : Nat) : Prop := Ok c ∧ c.up = true ∧ (0 < n → c.info = 2 ∧ c.hrd = n) ∧ (n = 0 → c.info = 0)

theorem aged_next {c : Cd} {n : Nat} (h : Aged c (n + 1)) : Aged (tckC c) n ∧ tckB c = decide (n = 0) ∧ (tckC c).info = (if n = 0 then 0 else 2) := by
  obtain ⟨h0, h1, h2, _⟩ := h
  obtain ⟨h2, h3⟩ := h2 (by omega)
  obtain ⟨a1, a2, a3, _⟩ := tck_is h1
  have hd : dnI c.hrd = n := by unfold dnI; rw [h3, if_neg (by omega)]; omega
  rw [hd, h2] at a2
  rw [hd] at a3
  have ei : (tckC c).info = (if n = 0 then 0 else 2) := by
    rw [a2]
    by_cases e : n = 0
    · subst e; simp
    · rw [if_neg e, if_neg (fun h => e (by omega))]
  refine ⟨⟨ok_tck h0, a1, fun hn => ⟨by rw [ei, if_neg (by omega)], a3⟩, fun hn => by rw [ei, if_pos hn]⟩, ?_, ei⟩
  unfold tckB oldB
  show (c.up && (decide (c.info = 2) && decide (dnI c.hrd = 0))) = _
  rw [h1, h2, hd]
  simp

theorem aged_end {c : Cd} (h : Aged c 0) : tckB c = false := by
  have h4 := h.2.2.2 rfl
  unfold tckB oldB
  show (c.up && (decide (c.info = 2) && _)) = false
  rw [h4]
  simp

/-- A designated port that waits: it forwards behind r ticks at most. -/
def Waits (c : Cd) (r : Int) : Prop := Ok c ∧ c.up = true ∧ c.role = 3 ∧ 0 ≤ c.t.d ∧ (c.st = 2 ∨ c.st = 1 ∧ max c.wai 1 ≤ r ∨ c.st = 0 ∧ max c.wai 1 + max c.t.d 1 ≤ r)

theorem mov_st (a : Cd) (h1 : a.up = true) (h2 : a.role = 3) : (movC a).st = (if a.st < 2 ∧ a.wai ≤ 0 then a.st + 1 else a.st) ∧ (movC a).wai = (if a.st < 2 ∧ a.wai ≤ 0 ∧ ¬ a.st + 1 = 2 then a.t.d else a.wai) := by
  unfold movC
  by_cases e1 : a.st < 2 ∧ a.wai ≤ 0
  · rw [if_pos (show a.up = true ∧ a.role = 3 ∧ a.st < 2 ∧ a.wai ≤ 0 from ⟨h1, h2, e1⟩), if_pos e1]
    by_cases e3 : a.st + 1 = 2
    · rw [if_pos e3, if_neg (show ¬ (a.st < 2 ∧ a.wai ≤ 0 ∧ ¬ a.st + 1 = 2) from fun h => h.2.2 e3)]
      exact ⟨rfl, rfl⟩
    · rw [if_neg e3, if_pos (show a.st < 2 ∧ a.wai ≤ 0 ∧ ¬ a.st + 1 = 2 from ⟨e1.1, e1.2, e3⟩)]
      exact ⟨rfl, rfl⟩
  · rw [if_neg (show ¬ (a.up = true ∧ a.role = 3 ∧ a.st < 2 ∧ a.wai ≤ 0) from fun h => e1 h.2.2), if_neg e1, if_neg (show ¬ (a.st < 2 ∧ a.wai ≤ 0 ∧ ¬ a.st + 1 = 2) from fun h => e1 ⟨h.1, h.2.1⟩)]
    exact ⟨rfl, rfl⟩

theorem tck_st {c : Cd} (h : c.up = true) (h3 : c.role = 3) : (tckC c).st = (if c.st < 2 ∧ dnI c.wai ≤ 0 then c.st + 1 else c.st) ∧ (tckC c).wai = (if c.st < 2 ∧ dnI c.wai ≤ 0 ∧ ¬ c.st + 1 = 2 then c.t.d else dnI c.wai) := by
  unfold tckC
  rw [if_pos h]
  obtain ⟨_, _, _, _, _, a6, a7⟩ := edg_kept (movC (ageC (tmrC c)))
  rw [a6, a7]
  obtain ⟨c1, _, c4, c5, c6, c7⟩ := age_kept (tmrC c)
  obtain ⟨m1, m2⟩ := mov_st (ageC (tmrC c)) (by rw [c1]; exact h) (by rw [c4]; exact h3)
  rw [c6, c7] at m1
  rw [c5, c6, c7] at m2
  exact ⟨m1, m2⟩

theorem waits_next {c : Cd} {r : Int} (h : Waits c (r + 1)) : Waits (tckC c) r ∧ ((tckC c).st = c.st ∨ (tckC c).st = c.st + 1) := by
  obtain ⟨h0, h1, h2, hd, h3⟩ := h
  obtain ⟨a1, _, _, a4, a5⟩ := tck_is h1
  obtain ⟨s1, s2⟩ := tck_st h1 h2
  have e : dnI c.wai = max (c.wai - 1) 0 := by unfold dnI; split <;> omega
  rw [e] at s1 s2
  refine ⟨⟨ok_tck h0, a1, by rw [a4, h2], by rw [a5]; exact hd, ?_⟩, ?_⟩
  · rw [s1, s2, a5]
    rcases h3 with h3 | ⟨h3, h4⟩ | ⟨h3, h4⟩
    · rw [if_neg (by omega)]; exact .inl h3
    · by_cases hw : max (c.wai - 1) 0 ≤ 0
      · rw [if_pos ⟨by omega, hw⟩]; exact .inl (by omega)
      · rw [if_neg (by omega), if_neg (by omega)]; exact .inr (.inl ⟨h3, by omega⟩)
    · by_cases hw : max (c.wai - 1) 0 ≤ 0
      · rw [if_pos ⟨by omega, hw⟩, if_pos ⟨by omega, hw, by omega⟩]; exact .inr (.inl ⟨by omega, by omega⟩)
      · rw [if_neg (by omega), if_neg (by omega)]; exact .inr (.inr ⟨h3, by omega⟩)
  · rw [s1]
    split
    · exact .inr rfl
    · exact .inl rfl

theorem waits_end {c : Cd} (h : Waits c 0) : c.st = 2 := by
  obtain ⟨_, _, _, hd, h3⟩ := h
  omega

end Clk
end Go.Proofs.Ytakbmdamegjdeaa
