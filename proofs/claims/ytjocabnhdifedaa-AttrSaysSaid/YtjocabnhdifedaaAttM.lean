/-
  What attr.Split, and the document's answer beside it, make of any text.
-/
import Derived.Test.YtjocabnhdifedaaAttK
namespace Go.Proofs.Ytjocabnhdifedaa
open Go.RowKit
namespace Att
open Oct

def splitL (kind : Int) : Nat → List UInt8 → List At
  | 0, _ => []
  | _ + 1, [] => []
  | m + 1, b :: s => (kind, ⟨((b :: s).take 253).toArray⟩) :: splitL kind m ((b :: s).drop 253)

def splitE (kind : Int) (n : Nat) : Int := if kind < 1 ∨ 255 < kind then 1 else if 16192 < n then 4 else 0
def splitR (kind : Int) (s : ByteArray) : List At := if splitE kind s.size = 0 then splitL kind 64 s.data.toList else []

theorem splitL_none (kind : Int) (m : Nat) : splitL kind m [] = [] := by cases m <;> rfl

theorem splitL_next (kind : Int) (m : Nat) (t : ByteArray) (h : t.size ≠ 0) (n : Nat) (hn : n = min t.size 253) : splitL kind (m + 1) t.data.toList = (kind, t.extract 0 n) :: splitL kind m (t.extract n t.size).data.toList := by
  have e1 : (t.extract n t.size).data.toList = t.data.toList.drop 253 := by
    rw [list_extract, List.take_of_length_le (by rw [List.length_drop, size_list]; omega)]
    rcases (show t.size ≤ 253 ∨ n = 253 by omega) with h1 | h1
    · rw [List.drop_of_length_le (by rw [size_list]; omega), List.drop_of_length_le (by rw [size_list]; omega)]
    · rw [h1]
  have e2 : (⟨(t.data.toList.take 253).toArray⟩ : ByteArray) = t.extract 0 n := by
    apply ByteArray.ext
    apply Array.toList_inj.1
    rw [list_extract]
    show t.data.toList.take 253 = (t.data.toList.drop 0).take (n - 0)
    rw [List.drop_zero, Nat.sub_zero]
    rcases (show t.size ≤ 253 ∨ n = 253 by omega) with h1 | h1
    · rw [List.take_of_length_le (by rw [size_list]; omega), List.take_of_length_le (by rw [size_list]; omega)]
    · rw [h1]
  rw [e1, ← e2]
  have hl := size_list t
  cases hd : t.data.toList with
  | nil => rw [hd] at hl; exact absurd hl.symm h
  | cons b s => rfl

set_option maxHeartbeats 4000000 in
theorem split_ok (kind : Int) (hk1 : 1 ≤ kind) (hk2 : kind ≤ 255) (s : ByteArray) (hz : s.size ≤ 16192) (r : List At) (w : World) (hr : splitL kind 64 s.data.toList = r) :
    Calls Try.prog 24 #[.int .i64 kind, .string s] w (GivesE r 0 w) := by
  obtain ⟨i0, hi, hz0, hz1, hz2⟩ := info_parts info_at
  have HRD := Lib.hid hr
  clear hr
  go_enter Try.func24, Try.ntmps24
  go_wp2
  have BX := Lib.hid (Bx.box_below w (Obj.cells #[] 37))
  have HO := Lib.hid (World.ownsRow_made (e := 37) (size := 2) w #[] 0 (Nat.le_refl _) (Nat.zero_le _) (by simp))
  go_loopw [1, 6, 7] (fun s0 v _ wr => ∃ (t : ByteArray) (B : Option Addr) (c : Nat) (o : List At), o.length ≤ 64 ∧ t.size ≤ 253 * (64 - o.length) ∧ s0 = .string t ∧ v = .slice B o.length c ∧ Aside (o ++ splitL kind (64 - o.length) t.data.toList = r) ∧
    Aside (wr.ownsRow w.heap.size 37 2 (.slice B o.length c) o.length (o.flatMap enc)) ∧ Aside (Below w.heap.size w wr)) (fun s0 _ _ _ => strSz s0)
  case atStart => exact ⟨s, some ⟨w.heap.size, 0, none⟩, 0, [], Nat.zero_le _, hz, rfl, rfl, HRD.out, HO.out, BX.out⟩
  case round =>
    obtain ⟨t, B, c, o, hk, hts, rfl, rfl, HR, HW, HB⟩ := hrel
    by_cases h0 : t.size = 0
    · have e1 := size_zero h0
      subst e1
      have HR2 := HR.out
      rw [show (⟨#[]⟩ : ByteArray).data.toList = [] from rfl, splitL_none, List.append_nil] at HR2
      subst HR2
      obtain ⟨_, _, e1, h3⟩ := Ats.of_own HW.out
      injection e1 with e1 _ e4
      subst e1 e4
      have HG := Lib.hid (show GivesE o 0 w (.returned (.tuple #[.slice B o.length c, .int .i64 0])) wr from ⟨_, _, rfl, h3, HB.out⟩)
      clear h3
      go_wp2
      go_ret2
      exact HG.out
    · have hne := full_list h0
      obtain ⟨m, hm⟩ : ∃ m, 64 - o.length = m + 1 := ⟨64 - o.length - 1, by omega⟩
      obtain ⟨n, hn⟩ : ∃ n, n = min t.size 253 := ⟨_, rfl⟩
      have HR2 := HR.out
      rw [hm, splitL_next kind m t h0 n hn] at HR2
      obtain ⟨X, hX⟩ : ∃ X, t.extract 0 n = X := ⟨_, rfl⟩
      rw [hX] at HR2
      have HR4 : Hid ((o ++ [(kind, X)]) ++ splitL kind (64 - (o ++ [(kind, X)]).length) (t.extract n t.size).data.toList = r) := Lib.hid (by rw [show 64 - (o ++ [(kind, X)]).length = m by rw [List.length_append]; simp; omega, List.append_assoc]; exact HR2)
      have ho2 : (o ++ [(kind, X)]).length ≤ 64 := by rw [List.length_append]; simp; omega
      have hes : (t.extract n t.size).size = t.size - n := by rw [ByteArray.size_extract]; omega
      have ho3 : (t.extract n t.size).size ≤ 253 * (64 - (o ++ [(kind, X)]).length) := by rw [hes, List.length_append]; simp; omega
      have hmin : min (t.size : Int) 253 = n := by omega
      have hn1 : n ≤ t.size := by omega
      have hn0 : 0 < n := by omega
      have hn2 : n ≤ 253 := by omega
      have hsz := HB.out.size
      clear hn hm HR HR2
      go_wp2_with (at_builtin; refine wpList_append_own _ rfl _ _ 22 rfl w.heap.size 37 i0 (.agg #[.int .i64 0, .string ⟨#[]⟩]) 2 24 Try.underlying22 hi hz0 hz1 hz2 rfl (by decide) _ _ _ rfl (HW.out.alloc _) ⟨_, 0, none⟩ 1 1 [.int .i64 kind, .string X] rfl rfl ?c1 ?c2 ?c3 ?c4 ?c5 ?_)
      case c1 => exact pair_behind _ _ _ _
      case c2 => intro u hu; simp at hu; rcases hu with rfl | rfl <;> rfl
      case c3 => unfold maxLen; omega
      case c4 => omega
      case c5 => simp; omega
      intro v' w5 hown' hgrow _
      have hrow := HW.out.lt
      have bel := (Bx.bel_box HB.out (Obj.cells #[.int .i64 kind, .string X] 37)).grown hgrow (by simp; omega) (fun q hq => (hrow q hq).1)
      obtain ⟨B', c', rfl, hW'⟩ := at_next (x := (kind, X)) hown'
      have HW2 := Lib.hid hW'
      have HBL := Lib.hid bel
      clear hown' hgrow hrow hW' bel HW HB
      go_wp2
      go_roundw
      case rel => exact ⟨t.extract n t.size, B', c', o ++ [(kind, X)], ho2, ho3, rfl, by simp, HR4.out, HW2.out, HBL.out⟩
      case measure => show (t.extract n t.size).size < t.size; omega

theorem split_any (kind : Int) (s : ByteArray) (hz : s.size ≤ 20000) (w : World) :
    Calls Try.prog 24 #[.int .i64 kind, .string s] w (GivesE (splitR kind s) (splitE kind s.size) w) := by
  have HG := Lib.hid (fun E => show GivesE [] E w (.returned (.tuple #[.slice none 0 0, .int .i64 E])) w from ⟨none, 0, rfl, Ats.nil _ _, Below.refl _ _⟩)
  rcases (show kind < 1 ∨ 255 < kind ∨ (1 ≤ kind ∧ kind ≤ 255) by omega) with h1 | h1 | ⟨h1, h2⟩
  · have e1 : splitE kind s.size = 1 := if_pos (.inl h1)
    have e2 : splitR kind s = [] := if_neg (by rw [e1]; decide)
    rw [e1, e2]
    go_enter Try.func24, Try.ntmps24
    go_wp2
    go_ret2
    exact HG.out 1
  · have e1 : splitE kind s.size = 1 := if_pos (.inr h1)
    have e2 : splitR kind s = [] := if_neg (by rw [e1]; decide)
    rw [e1, e2]
    have h0 : ¬ kind < 1 := by omega
    go_enter Try.func24, Try.ntmps24
    go_wp2
    go_ret2
    exact HG.out 1
  · have e0 : splitE kind s.size = if 16192 < s.size then 4 else 0 := if_neg (show ¬ (kind < 1 ∨ 255 < kind) by omega)
    by_cases h3 : 16192 < s.size
    · have e1 : splitE kind s.size = 4 := e0.trans (if_pos h3)
      have e2 : splitR kind s = [] := if_neg (by rw [e1]; decide)
      rw [e1, e2]
      go_enter Try.func24, Try.ntmps24
      go_wp2
      go_ret2
      exact HG.out 4
    · have e1 : splitE kind s.size = 0 := e0.trans (if_neg h3)
      have e2 : splitR kind s = splitL kind 64 s.data.toList := if_pos e1
      rw [e1, e2]
      exact split_ok kind h1 h2 s (by omega) _ w rfl

set_option maxHeartbeats 4000000 in
theorem rsplit_ok (kind : Int) (hk1 : 1 ≤ kind) (hk2 : kind ≤ 255) (s : ByteArray) (hz : s.size ≤ 16192) (r : List At) (w : World) (hr : splitL kind 64 s.data.toList = r) :
    Calls Try.prog 25 #[.int .i64 kind, .string s] w (GivesE r 0 w) := by
  obtain ⟨i0, hi, hz0, hz1, hz2⟩ := info_parts info_at
  have HRD := Lib.hid hr
  clear hr
  go_enter Try.func25, Try.ntmps25
  go_wp2
  go_loopw [1, 6, 7] (fun s0 v _ wr => ∃ (t : ByteArray) (B : Option Addr) (c : Nat) (o : List At), o.length ≤ 64 ∧ t.size ≤ 253 * (64 - o.length) ∧ s0 = .string t ∧ v = .slice B o.length c ∧ Aside (o ++ splitL kind (64 - o.length) t.data.toList = r) ∧
    Aside (wr.ownsRow w.heap.size 37 2 (.slice B o.length c) o.length (o.flatMap enc)) ∧ Aside (Below w.heap.size w wr)) (fun s0 _ _ _ => strSz s0)
  case atStart => exact ⟨s, none, 0, [], Nat.zero_le _, hz, rfl, rfl, HRD.out, World.ownsRow_nil _ _ _ _, Below.refl _ _⟩
  case round =>
    obtain ⟨t, B, c, o, hk, hts, rfl, rfl, HR, HW, HB⟩ := hrel
    by_cases h0 : t.size = 0
    · have e1 := size_zero h0
      subst e1
      have HR2 := HR.out
      rw [show (⟨#[]⟩ : ByteArray).data.toList = [] from rfl, splitL_none, List.append_nil] at HR2
      subst HR2
      obtain ⟨_, _, e1, h3⟩ := Ats.of_own HW.out
      injection e1 with e1 _ e4
      subst e1 e4
      have HG := Lib.hid (show GivesE o 0 w (.returned (.tuple #[.slice B o.length c, .int .i64 0])) wr from ⟨_, _, rfl, h3, HB.out⟩)
      clear h3
      go_wp2
      go_ret2
      exact HG.out
    · have hne : (0 : Int) < t.size := by omega
      obtain ⟨m, hm⟩ : ∃ m, 64 - o.length = m + 1 := ⟨64 - o.length - 1, by omega⟩
      obtain ⟨n, hn⟩ : ∃ n, n = min t.size 253 := ⟨_, rfl⟩
      have HR2 := HR.out
      rw [hm, splitL_next kind m t h0 n hn] at HR2
      obtain ⟨X, hX⟩ : ∃ X, t.extract 0 n = X := ⟨_, rfl⟩
      rw [hX] at HR2
      have HR4 : Hid ((o ++ [(kind, X)]) ++ splitL kind (64 - (o ++ [(kind, X)]).length) (t.extract n t.size).data.toList = r) := Lib.hid (by rw [show 64 - (o ++ [(kind, X)]).length = m by rw [List.length_append]; simp; omega, List.append_assoc]; exact HR2)
      have ho2 : (o ++ [(kind, X)]).length ≤ 64 := by rw [List.length_append]; simp; omega
      have hes : (t.extract n t.size).size = t.size - n := by rw [ByteArray.size_extract]; omega
      have ho3 : (t.extract n t.size).size ≤ 253 * (64 - (o ++ [(kind, X)]).length) := by rw [hes, List.length_append]; simp; omega
      have hmin : min (253 : Int) t.size = n := by omega
      have hn1 : n ≤ t.size := by omega
      have hn0 : 0 < n := by omega
      have hn2 : n ≤ 253 := by omega
      have hsz := HB.out.size
      clear hn hm HR HR2
      go_wp2_with (at_builtin; refine wpList_append_own _ rfl _ _ 22 rfl w.heap.size 37 i0 (.agg #[.int .i64 0, .string ⟨#[]⟩]) 2 24 Try.underlying22 hi hz0 hz1 hz2 rfl (by decide) _ _ _ rfl (HW.out.alloc _) ⟨_, 0, none⟩ 1 1 [.int .i64 kind, .string X] rfl rfl ?c1 ?c2 ?c3 ?c4 ?c5 ?_)
      case c1 => exact pair_behind _ _ _ _
      case c2 => intro u hu; simp at hu; rcases hu with rfl | rfl <;> rfl
      case c3 => unfold maxLen; omega
      case c4 => omega
      case c5 => simp; omega
      intro v' w5 hown' hgrow _
      have hrow := HW.out.lt
      have bel := (Bx.bel_box HB.out (Obj.cells #[.int .i64 kind, .string X] 37)).grown hgrow (by simp; omega) (fun q hq => (hrow q hq).1)
      obtain ⟨B', c', rfl, hW'⟩ := at_next (x := (kind, X)) hown'
      have HW2 := Lib.hid hW'
      have HBL := Lib.hid bel
      clear hown' hgrow hrow hW' bel HW HB
      go_wp2
      go_roundw
      case rel => exact ⟨t.extract n t.size, B', c', o ++ [(kind, X)], ho2, ho3, rfl, by simp, HR4.out, HW2.out, HBL.out⟩
      case measure => show (t.extract n t.size).size < t.size; omega

theorem rsplit_any (kind : Int) (s : ByteArray) (hz : s.size ≤ 20000) (w : World) :
    Calls Try.prog 25 #[.int .i64 kind, .string s] w (GivesE (splitR kind s) (splitE kind s.size) w) := by
  have HG := Lib.hid (fun E => show GivesE [] E w (.returned (.tuple #[.slice none 0 0, .int .i64 E])) w from ⟨none, 0, rfl, Ats.nil _ _, Below.refl _ _⟩)
  rcases (show kind < 1 ∨ 255 < kind ∨ (1 ≤ kind ∧ kind ≤ 255) by omega) with h1 | h1 | ⟨h1, h2⟩
  · have e1 : splitE kind s.size = 1 := if_pos (.inl h1)
    have e2 : splitR kind s = [] := if_neg (by rw [e1]; decide)
    rw [e1, e2]
    go_enter Try.func25, Try.ntmps25
    go_wp2
    go_ret2
    exact HG.out 1
  · have e1 : splitE kind s.size = 1 := if_pos (.inr h1)
    have e2 : splitR kind s = [] := if_neg (by rw [e1]; decide)
    rw [e1, e2]
    have h0 : ¬ kind < 1 := by omega
    go_enter Try.func25, Try.ntmps25
    go_wp2
    go_ret2
    exact HG.out 1
  · have e0 : splitE kind s.size = if 16192 < s.size then 4 else 0 := if_neg (show ¬ (kind < 1 ∨ 255 < kind) by omega)
    by_cases h3 : 16192 < s.size
    · have e1 : splitE kind s.size = 4 := e0.trans (if_pos h3)
      have e2 : splitR kind s = [] := if_neg (by rw [e1]; decide)
      rw [e1, e2]
      go_enter Try.func25, Try.ntmps25
      go_wp2
      go_ret2
      exact HG.out 4
    · have e1 : splitE kind s.size = 0 := e0.trans (if_neg h3)
      have e2 : splitR kind s = splitL kind 64 s.data.toList := if_pos e1
      rw [e1, e2]
      exact rsplit_ok kind h1 h2 s (by omega) _ w rfl

end Att
end Go.Proofs.Ytjocabnhdifedaa
