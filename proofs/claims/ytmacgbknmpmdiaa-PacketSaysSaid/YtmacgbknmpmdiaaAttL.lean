/-
  What the document's Read reads of any text.
-/
import Derived.Test.YtmacgbknmpmdiaaAttK
import Derived.Deep.RegionLaw
namespace Go.Proofs.Ytmacgbknmpmdiaa
open Go.RowKit
namespace Att
open Oct

theorem rest_list (s : ByteArray) (a : Nat) : (s.extract a s.size).data.toList = s.data.toList.drop a := by
  rw [list_extract]
  apply List.take_of_length_le
  rw [List.length_drop, size_list]
  omega

theorem rest_at (s : ByteArray) (a i : Nat) (h : a + i < s.size) (h' : i < (s.extract a s.size).size) : (s.extract a s.size)[i] = s[a + i] := by
  rw [ByteArray.getElem_extract]

theorem rest_size (s : ByteArray) (a : Nat) : (s.extract a s.size).size = s.size - a := by
  rw [ByteArray.size_extract]; omega

theorem rest_next (s : ByteArray) (a m : Nat) (o : List At) (h : a + 2 ≤ s.size) (hf : ¬ (s[a].toNat < 1 ∨ s[a + 1].toNat < 2)) (hs : ¬ s.size - a < s[a + 1].toNat) :
    readL (m + 1) (s.data.toList.drop a) o = readL m (s.data.toList.drop (a + s[a + 1].toNat)) (o ++ [((s[a].toNat : Int), s.extract (a + 2) (a + s[a + 1].toNat))]) := by
  have e0 := rest_at s a 0 (by omega) (by rw [rest_size]; omega)
  have e1 := rest_at s a 1 (by omega) (by rw [rest_size]; omega)
  have e2 := readL_next m (s.extract a s.size) (by rw [rest_size]; omega) (by rw [e0, e1]; exact hf) (by rw [e1, rest_size]; exact hs) o
  rw [rest_list, e0, e1] at e2
  rw [e2, rest_size, ByteArray.extract_extract, ByteArray.extract_extract]
  have e3 : min (a + (s.size - a)) s.size = s.size := by omega
  have e4 : min (a + s[a + 1].toNat) s.size = a + s[a + 1].toNat := by omega
  rw [e3, e4, rest_list]
  rfl

theorem rest_bad (s : ByteArray) (a m : Nat) (o : List At) (E : Int) (r : List At) (h : a < s.size) (hr : readL (m + 1) (s.data.toList.drop a) o = (E, r)) :
    (s.size - a < 2 → E = 2 ∧ r = []) ∧ ∀ h2 : a + 2 ≤ s.size, ((s[a].toNat < 1 ∨ s[a + 1].toNat < 2) → E = 3 ∧ r = []) ∧ (¬ (s[a].toNat < 1 ∨ s[a + 1].toNat < 2) → s.size - a < s[a + 1].toNat → E = 2 ∧ r = []) := by
  rw [← rest_list] at hr
  refine ⟨fun h2 => ?_, fun h2 => ⟨fun h3 => ?_, fun h3 h4 => ?_⟩⟩
  · rw [readL_one m _ (by rw [rest_size]; omega)] at hr
    cases hr; exact ⟨rfl, rfl⟩
  · have e0 := rest_at s a 0 (by omega) (by rw [rest_size]; omega)
    have e1 := rest_at s a 1 (by omega) (by rw [rest_size]; omega)
    rw [readL_form m _ (by rw [rest_size]; omega) (by rw [e0, e1]; exact h3)] at hr
    cases hr; exact ⟨rfl, rfl⟩
  · have e0 := rest_at s a 0 (by omega) (by rw [rest_size]; omega)
    have e1 := rest_at s a 1 (by omega) (by rw [rest_size]; omega)
    rw [readL_short m _ (by rw [rest_size]; omega) (by rw [e0, e1]; exact h3) (by rw [e1, rest_size]; exact h4)] at hr
    cases hr; exact ⟨rfl, rfl⟩

/-- An append to a row of the call's own, as one step of a region that draws. -/
theorem step_append_own {P : Program} {ops : Array Oper} {o : Oper} {a : Act} {w : World} {K : Act → World → Prop} {Q : Exit → Act → World → Prop} {E : Prop}
    (hg : o.guard = none) (s x : Operand) (t : TypeId) (hop : o.op = Op.call { callee := Callee.builtin Builtin.append, args := #[s, x], argTypes := #[t, t] })
    (base : Nat) (e : TypeId) (i : TypeInfo) (z : Value) (size bytes : Nat) (ht : P.underlying t = some (.slice e)) (hi : P.info? e = some i) (hz : i.zero = some z)
    (hsize : i.size = size) (hby : i.bytes = bytes) (hzs : z.cells.size = size) (hsz : 0 < size)
    (v : Value) (n : Nat) (xs : List Value) (hs : a.eval s = v) (hown : w.ownsRow base e size v n xs)
    (ad : Addr) (m c : Nat) (news : List Value) (hx : a.eval x = .slice (some ad) m c) (hl : news.length = m * size) (hnews : ∀ j u, news[j]? = some u → w.cell? (ad.add j) = some u) (h1 : ∀ u ∈ news, u.oneCell' = true)
    (h63 : n + m ≤ maxLen) (hbytes : (n + m) * bytes ≤ 140737488355328) (hbase : base ≤ w.heap.size)
    (h : ∀ v' w', w'.ownsRow base e size v' (n + m) (xs ++ news) → w.grownBy w' v.ownBlock → K (a.put o.dst v') w') :
    if Region.wanted o (yielded ops a.tmps) = true then Oper.wp P o a w K Q else E := by
  have hw : Region.wanted o (yielded ops a.tmps) = true := by simp [Region.wanted, hg]
  rw [if_pos hw]
  exact wp_append_own w s x t hop base e i z size bytes ht hi hz hsize hby hzs hsz v n xs hs hown ad m c news hx hl hnews h1 h63 hbytes hbase fun v' w' h2 h3 _ => h v' w' h2 h3

set_option maxHeartbeats 4000000 in
theorem rread_fresh (s : ByteArray) (hz : s.size ≤ 20000) (E : Int) (r : List At) (w : World) (hr : readL 64 s.data.toList [] = (E, r)) :
    Calls Try.prog 29 #[.string s] w (GivesF r E w) := by
  obtain ⟨i0, hi, hz0, hz1, hz2⟩ := info_parts info_at
  have HRD := Lib.hid hr
  clear hr
  go_enter Try.func29, Try.ntmps29
  go_wp2
  go_loopw [4, 5, 6] (fun v s0 _ wr => ∃ (a : Nat) (B : Option Addr) (c : Nat) (o : List At), o.length ≤ 64 ∧ s0 = .int .i64 a ∧ a ≤ s.size ∧ v = .slice B o.length c ∧ Aside (readL (64 - o.length) (s.data.toList.drop a) o = (E, r)) ∧
    Aside (wr.ownsRow w.heap.size 41 2 (.slice B o.length c) o.length (o.flatMap enc)) ∧ Aside (Below w.heap.size w wr)) (fun _ s0 _ _ => s.size - (intOf s0).toNat)
  case atStart => exact ⟨0, none, 0, [], Nat.zero_le _, rfl, Nat.zero_le _, rfl, HRD.out, World.ownsRow_nil _ _ _ _, Below.refl _ _⟩
  case round =>
    obtain ⟨a, B, c, o, hk, rfl, hts, rfl, HR, HW, HB⟩ := hrel
    have hl64 : o.length ≤ 9223372036854775807 := by omega
    by_cases h0 : a < s.size
    · by_cases hk2 : 64 ≤ o.length
      · have HR2 := HR.out
        rw [show 64 - o.length = 0 by omega, ← rest_list, readL_many _ (by rw [rest_size]; omega)] at HR2
        injection HR2 with hE hr
        subst hE hr
        have HG := Lib.hid (show GivesF [] 4 w (.returned (.tuple #[.slice none 0 0, .int .i64 4])) wr from ⟨_, _, rfl, Ats.nil _ _, new_none _, HB.out⟩)
        go_wp2
        go_ret2
        exact HG.out
      · obtain ⟨m, hm⟩ : ∃ m, 64 - o.length = m + 1 := ⟨64 - o.length - 1, by omega⟩
        have HR2 := HR.out
        rw [hm] at HR2
        have HBD := Lib.hid (rest_bad s a m o E r h0 HR2)
        have HG := fun (hr : r = []) (wr' : World) (hb : Below w.heap.size w wr') => Lib.hid (show GivesF r E w (.returned (.tuple #[.slice none 0 0, .int .i64 E])) wr' from ⟨none, 0, by subst hr; rfl, by subst hr; exact Ats.nil _ _, new_none _, hb⟩)
        by_cases h2 : a + 2 ≤ s.size
        · have p1 : a + 1 < s.size := by omega
          have HN := Lib.hid (fun hf hs => (rest_next s a m o h2 hf hs).symm.trans HR2)
          have HD := Lib.hid (HBD.out.2 h2)
          have hb0 := s[a].toNat_lt
          have hb1 := s[a + 1].toNat_lt
          clear HR2 HBD HR
          generalize hT : s[a].toNat = T at *
          generalize hNN : s[a + 1].toNat = N at *
          have h3 : ¬ (s.size : Int) - a < 2 := by omega
          by_cases hT0 : T = 0
          · obtain ⟨rfl, rfl⟩ := HD.out.1 (by omega)
            subst hT0
            have HG1 := HG rfl _ HB.out
            clear HG HD HN
            go_wp2
            go_ret2
            exact HG1.out
          · have hT1 : ((T : Int) == 0) = false := by simp; omega
            by_cases hN2 : N < 2
            · obtain ⟨rfl, rfl⟩ := HD.out.1 (by omega)
              have HG1 := HG rfl _ HB.out
              clear HG HD HN
              go_wp2
              go_ret2
              exact HG1.out
            · by_cases hsh : s.size - a < N
              · obtain ⟨rfl, rfl⟩ := HD.out.2 (by omega) hsh
                have hsh' : (s.size : Int) - a < N := by omega
                have HG1 := HG rfl _ HB.out
                clear HG HD HN
                go_wp2
                go_ret2
                exact HG1.out
              · have hsh' : ¬ (s.size : Int) - a < N := by omega
                have HR3 := Lib.hid (HN.out (by omega) hsh)
                have q1 : (a : Int) + 2 ≤ a + N := by omega
                have q2 : (a : Int) + N ≤ s.size := by omega
                have q3 : a + N ≤ s.size := by omega
                have q4 : a + 2 ≤ a + N := by omega
                have t1 : ((a : Int) + 2).toNat = a + 2 := by omega
                have t2 : ((a : Int) + N).toNat = a + N := by omega
                have w1 : IntKind.i64.wrap ((a : Int) + 2) = a + 2 := by rw [IntKind.wrap_i64]; omega
                have w2 : IntKind.i64.wrap ((a : Int) + N) = a + N := by rw [IntKind.wrap_i64]; omega
                have w3 : IntKind.i64.wrap (T : Int) = T := by rw [IntKind.wrap_i64]; omega
                have q5 : (0 : Int) ≤ (a : Int) + 2 := by omega
                have q6 : (0 : Int) ≤ (a : Int) + N := by omega
                obtain ⟨X, hX⟩ : ∃ X, s.extract (a + 2) (a + N) = X := ⟨_, rfl⟩
                rw [hX] at HR3
                have HO1 := Lib.hid (HW.out.drew.alloc (Obj.cells #[.int .i64 T, .string X] 41))
                have HO2 := Lib.hid (pair_behind wr.drew T X 41)
                have HO3 : Hid (∀ u ∈ [Value.int .i64 T, .string X], u.oneCell' = true) := Lib.hid (by intro u hu; simp at hu; rcases hu with rfl | rfl <;> rfl)
                have hsb := HB.out.size
                have HO4 : Hid (w.heap.size ≤ (wr.drew.alloc (Obj.cells #[.int .i64 T, .string X] 41)).heap.size) := Lib.hid (by simp; omega)
                have HO5 : Hid (o.length + 1 ≤ maxLen) := Lib.hid (by unfold maxLen; omega)
                have HB1 := Lib.hid (Bx.bel_box HB.out.drew (Obj.cells #[.int .i64 T, .string X] 41))
                clear HG HD HN HW HB
                go_wp2
                go_region_law (refine step_append_own rfl (.tmp 38) (.tmp 51) 22 rfl w.heap.size 41 i0 (.agg #[.int .i64 0, .string ⟨#[]⟩]) 2 24 Try.underlying22 hi hz0 hz1 hz2 rfl (by decide) (.slice B o.length c) o.length (o.flatMap enc) (by simp [Act.eval]) HO1.out ⟨wr.heap.size, 0, none⟩ 1 1 [.int .i64 T, .string X] (by simp [Act.eval]) rfl HO2.out HO3.out HO5.out (by omega) HO4.out ?_; intro v' w5 hown' hgrow)
                have hrow := HO1.out.lt
                have bel := HB1.out.grown hgrow HO4.out (fun q hq => (hrow q hq).1)
                obtain ⟨B', c', rfl, hW'⟩ := at_next (x := ((T : Int), X)) hown'
                have HW2 := Lib.hid hW'
                have HBL := Lib.hid bel
                have HR4 : Hid (readL (64 - (o ++ [((T : Int), X)]).length) (s.data.toList.drop (a + N)) (o ++ [((T : Int), X)]) = (E, r)) := Lib.hid (by rw [show 64 - (o ++ [((T : Int), X)]).length = m by rw [List.length_append]; simp; omega]; exact HR3.out)
                have ho2 : (o ++ [((T : Int), X)]).length ≤ 64 := by rw [List.length_append]; simp; omega
                clear hown' hgrow hrow hW' bel HO1 HO2 HO3 HO4 HO5 HB1 HR3
                go_wp2
                go_roundw
                case rel => exact ⟨a + N, B', c', o ++ [((T : Int), X)], ho2, by go_num, q3, by simp, HR4.out, HW2.out, HBL.out⟩
                case measure => simp [intOf]; omega
        · obtain ⟨rfl, rfl⟩ := HBD.out.1 (by omega)
          have h3 : (s.size : Int) - a < 2 := by omega
          have HG1 := HG rfl _ HB.out
          clear HG HBD HR2 HR
          go_wp2
          go_ret2
          exact HG1.out
    · have e1 : s.data.toList.drop a = [] := List.drop_of_length_le (by rw [size_list]; omega)
      have HR2 := HR.out
      rw [e1, readL_done] at HR2
      injection HR2 with hE hr
      subst hE hr
      obtain ⟨_, _, e1, h3⟩ := Ats.of_own HW.out
      injection e1 with e1 _ e4
      subst e1 e4
      have HG := Lib.hid (show GivesF o 0 w (.returned (.tuple #[.slice B o.length c, .int .i64 0])) wr from ⟨_, _, rfl, h3, own_new HW.out, HB.out⟩)
      clear h3
      go_wp2
      go_ret2
      exact HG.out

theorem rread_any (s : ByteArray) (hz : s.size ≤ 20000) (E : Int) (r : List At) (w : World) (hr : readL 64 s.data.toList [] = (E, r)) :
    Calls Try.prog 29 #[.string s] w (GivesE r E w) :=
  (rread_fresh s hz E r w hr).mono fun _ _ ⟨A, c, h1, h2, _, h3⟩ => ⟨A, c, h1, h2, h3⟩

end Att
end Go.Proofs.Ytmacgbknmpmdiaa
