/-
  The document's Sorted: one after another put in its place, in a new slice each time.
-/
import Derived.Test.YtkggphonoihidaaDoorPreClo
import Derived.Laws.AppendOwnNone
import Derived.Deep.DeepCutAuto
import Derived.Deep.CutBlock
namespace Go.Proofs.YtkggphonoihidaaDoor
open Go.RowKit
namespace Pre
open Oct

theorem inc_of_pair {l : List Vc} (h : l.Pairwise (Srt.Le ltV)) : Srt.Inc ltV 0 l.length l := fun i j x y _ hij _ hx hy => by
  obtain ⟨hi, rfl⟩ := List.getElem?_eq_some_iff.1 hx
  obtain ⟨hj, rfl⟩ := List.getElem?_eq_some_iff.1 hy
  exact List.pairwise_iff_getElem.1 h i j hi hj hij

theorem put_inc {o : List Vc} {k : Nat} {v : Vc} (h : Srt.Inc ltV 0 o.length o) (h1 : ∀ (j : Nat) (y : Vc), j < k → o[j]? = some y → Srt.Le ltV y v) (h2 : ∀ (j : Nat) (y : Vc), k ≤ j → o[j]? = some y → ltV v y = true) : Srt.Inc ltV 0 (o.take k ++ [v] ++ o.drop k).length (o.take k ++ [v] ++ o.drop k) := by
  refine inc_of_pair ?_
  have hp := h.pair (Nat.le_refl _)
  have e : o.take k ++ o.drop k = o := List.take_append_drop k o
  rw [← e, List.pairwise_append] at hp
  obtain ⟨p1, p2, p3⟩ := hp
  have ht : ∀ x ∈ o.take k, Srt.Le ltV x v := fun x hx => by
    obtain ⟨j, hj⟩ := List.getElem?_of_mem hx
    rw [List.getElem?_take] at hj
    split at hj
    · rename_i hjk; exact h1 j x hjk hj
    · cases hj
  have hd : ∀ x ∈ o.drop k, Srt.Le ltV v x := fun x hx => by
    obtain ⟨j, hj⟩ := List.getElem?_of_mem hx
    rw [List.getElem?_drop] at hj
    exact tot.lt_le (h2 (k + j) x (by omega) hj)
  rw [List.pairwise_append, List.pairwise_append]
  refine ⟨⟨p1, List.pairwise_singleton _ _, fun a ha b hb => ?_⟩, p2, fun a ha b hb => ?_⟩
  · rw [List.mem_singleton.1 hb]; exact ht a ha
  · rcases List.mem_append.1 ha with ha | ha
    · exact p3 a ha b hb
    · rw [List.mem_singleton.1 ha]; exact hd b hb

theorem put_perm {o l : List Vc} {k i : Nat} (hi : i < l.length) (h : o.Perm (l.take i)) : (o.take k ++ [l[i]] ++ o.drop k).Perm (l.take (i + 1)) := by
  rw [List.take_succ_eq_append_getElem hi]
  have h1 : (o.take k ++ [l[i]] ++ o.drop k).Perm (l[i] :: (o.take k ++ o.drop k)) := by
    rw [List.append_assoc]
    exact List.perm_middle
  rw [List.take_append_drop] at h1
  exact h1.trans ((h.cons _).trans (List.perm_append_comm (l₁ := [l[i]])))

theorem own_keep {w w' : World} {base : Nat} {e : TypeId} {v : Value} {n : Nat} {xs : List Value} (h : w.ownsRow base e 4 v n xs) (hb : Below w.heap.size w w') : w'.ownsRow base e 4 v n xs := by
  refine ⟨h.1, ?_⟩
  rcases h.2 with hn | ⟨g, cap, cur, h1, h2, h3, h4⟩
  · exact .inl hn
  · refine .inr ⟨g, cap, cur, h1, h2, ?_, h4⟩
    rw [hb.block g (Array.getElem?_eq_some_iff.1 h3).1]
    exact h3

theorem own_vs {w : World} {base c : Nat} {B : Option Addr} {e : TypeId} {l : List Vc} (h : w.ownsRow base e 4 (.slice B l.length c) l.length (l.flatMap enc)) : Vs w B l := by
  cases B with
  | none =>
    have := (own_none h).1
    rw [List.eq_nil_of_length_eq_zero this]
    exact Vs.nil _ _
  | some ad =>
    obtain ⟨g, rfl⟩ := own_addr h
    exact (row_of_own h).1.vs

theorem Vs.take {w : World} {A : Option Addr} {l : List Vc} (h : Vs w A l) (k : Nat) : Vs w A (l.take k) := fun j x hj => by
  rw [List.getElem?_take] at hj
  split at hj
  · exact h j x hj
  · cases hj

theorem Vs.drop {w : World} {g : Nat} {l : List Vc} (h : Vs w (some ⟨g, 0, none⟩) l) (k : Nat) : Vs w (some ⟨g, k * 4, none⟩) (l.drop k) := fun j x hj => by
  rw [List.getElem?_drop] at hj
  obtain ⟨b, o, e, h1, c0, c1, c2, c3⟩ := h _ _ hj
  injection e with e
  injection e with e1 e2
  subst e1 e2
  refine ⟨g, k * 4, rfl, h1, ?_, ?_, ?_, ?_⟩
  · rw [show k * 4 + j * 4 = 0 + (k + j) * 4 by omega]; exact c0
  · rw [show k * 4 + j * 4 + 1 = 0 + (k + j) * 4 + 1 by omega]; exact c1
  · rw [show k * 4 + j * 4 + 2 = 0 + (k + j) * 4 + 2 by omega]; exact c2
  · rw [show k * 4 + j * 4 + 3 = 0 + (k + j) * 4 + 3 by omega]; exact c3

theorem four_new (w : World) (x : Vc) (t : TypeId) : ∀ j u, (enc x)[j]? = some u → (w.alloc (.cells (enc x).toArray t)).cell? (Addr.add ⟨w.heap.size, 0, none⟩ j) = some u := fun j u hu => by
  rw [Addr.add_lit]
  simpa using (Bx.Blk.new w (enc x) t) j u hu

theorem own_cap {w : World} {base n c : Nat} {B : Option Addr} {e : TypeId} {xs : List Value} (h : w.ownsRow base e 4 (.slice B n c) n xs) : n ≤ c := by
  rcases h.2 with ⟨_, h0⟩ | ⟨g, cap, cur, h1, _, _, h4, _⟩
  · omega
  · injection h1 with _ _ e3
    omega

theorem own_mono {w : World} {base b' : Nat} {e : TypeId} {v : Value} {n : Nat} {xs : List Value} (h : w.ownsRow base e 4 v n xs) (hb : b' ≤ base) : w.ownsRow b' e 4 v n xs := by
  refine ⟨h.1, ?_⟩
  rcases h.2 with hn | ⟨g, cap, cur, h1, h2, h3⟩
  · exact .inl hn
  · exact .inr ⟨g, cap, cur, h1, Nat.le_trans hb h2, h3⟩

/-- A row of the call's own that holds these vectors, whatever its address. -/
def Nx (base : Nat) (w : World) (v : Value) (l : List Vc) : Prop := ∃ B c, v = .slice B l.length c ∧ w.ownsRow base 30 4 v l.length (l.flatMap enc)

theorem Nx.mk {base n : Nat} {w : World} {v : Value} {l : List Vc} {xs : List Value} (h : w.ownsRow base 30 4 v n xs) (hn : n = l.length) (hx : xs = l.flatMap enc) : Nx base w v l := by
  subst hn hx
  obtain ⟨B, c, rfl⟩ := at_form h
  exact ⟨B, c, rfl, h⟩

set_option maxRecDepth 20000 in
set_option maxHeartbeats 8000000 in
theorem rsorted_any (l : List Vc) (hl : l.length ≤ 1000) (A : Option Addr) (c : Nat) (w : World) (hA : Vs w A l) :
    Calls Tryd.prog 6 #[.slice A l.length c] w (SortedG l w) := by
  obtain ⟨i0, hi, hz0, hz1, hz2⟩ := info_parts info_vc
  have HA := Lib.hid hA
  have HBT := Lib.hid rbetter_any
  clear hA
  go_enter Tryd.func6, Tryd.ntmps6
  go_wp2
  go_loopw [3, 5, 6, 7, 10] (fun so _ _ _ ix wr => ∃ (i : Nat) (B : Option Addr) (cc : Nat) (o : List Vc), i ≤ l.length ∧ ix = .int .i64 i ∧ so = .slice B o.length cc ∧ Aside (o.Perm (l.take i)) ∧ Aside (Srt.Inc ltV 0 o.length o) ∧ Aside (wr.ownsRow w.heap.size 30 4 (.slice B o.length cc) o.length (o.flatMap enc)) ∧ Aside (Below w.heap.size w wr)) (fun _ _ _ _ ix _ => l.length - (intOf ix).toNat)
  case atStart => exact ⟨0, none, 0, [], Nat.zero_le _, rfl, rfl, .refl _, Srt.Inc.one _ _ (by simp) _, World.ownsRow_nil _ _ _ _, Below.refl _ _⟩
  case round =>
    obtain ⟨i, B, cc, o, hi', rfl, rfl, HP, HI, HO, HB⟩ := hrel
    by_cases hlt : i < l.length
    · obtain ⟨b, p, rfl, _, c0, c1, c2, c3⟩ := (HA.out.below HB.out).at hlt
      have HBX := Lib.hid (Bx.bel_box HB.out (vo l[i]))
      have HVB : Hid (Bx.Blk (wr.alloc (vo l[i])) wr.heap.size (enc l[i])) := Lib.hid (Bx.Blk.new wr (enc l[i]) 30)
      have HOX := Lib.hid (own_keep HO.out (Bx.box_below wr (vo l[i])))
      have HWR := Lib.hid (show wr.heap.size < (wr.alloc (vo l[i])).heap.size by simp)
      have HPN := Lib.hid (fun k => put_perm (o := o) (k := k) hlt HP.out)
      have HIN := Lib.hid (fun k => put_inc (o := o) (k := k) (v := l[i]) HI.out)
      have HOL := Lib.hid (show o.length ≤ 1000 by have := HP.out.length_eq; rw [List.length_take] at this; omega)
      have HI2 := HI
      generalize l[i] = v at *
      clear HP HI HB HO
      obtain ⟨v1, v2, v3, v4⟩ := v
      simp only at c0 c1 c2 c3
      go_upto_block 2 with (fail)
      generalize hW1 : wr.alloc (vo ⟨v1, v2, v3, v4⟩) = W1 at *
      clear hW1
      generalize wr.heap.size = M at *
      go_cut [6] (fun s6 wq => ∃ wz, wz = wq ∧ ∃ k : Nat, s6 = .int .i64 k ∧ Hid (k ≤ o.length) ∧ Hid (∀ (j : Nat) (y : Vc), j < k → o[j]? = some y → Srt.Le ltV y ⟨v1, v2, v3, v4⟩) ∧ Hid (∀ (j : Nat) (y : Vc), k ≤ j → o[j]? = some y → ltV ⟨v1, v2, v3, v4⟩ y = true) ∧ Hid (Below W1.heap.size W1 wz))
      case first =>
        as_aux_lemma =>
          go_wp2_with fail
          go_loopw [6] (fun vk wq => ∃ k : Nat, vk = .int .i64 k ∧ Aside (k ≤ o.length) ∧ Aside (∀ (j : Nat) (y : Vc), k ≤ j → o[j]? = some y → ltV ⟨v1, v2, v3, v4⟩ y = true) ∧ Aside (Below W1.heap.size W1 wq)) (fun vk _ => (intOf vk).toNat)
          case atStart => exact ⟨o.length, rfl, Nat.le_refl _, (fun j y hj hy => absurd (List.getElem?_eq_some_iff.1 hy).1 (by omega)), Below.refl _ _⟩
          case round =>
            obtain ⟨k, rfl, HK, HR, HB⟩ := hrel
            by_cases hk : 0 < k
            · obtain ⟨j, hj⟩ : ∃ j, k = j + 1 := ⟨k - 1, by omega⟩
              have hjl : j < o.length := by have := HK.out; omega
              obtain ⟨b1, p1, hB, _, d0, d1, d2, d3⟩ := (own_vs (own_keep HOX.out HB.out)).at hjl
              obtain ⟨f0, f1, f2, f3⟩ := (HVB.out.keep HB.out).all4
              have HJ := Lib.hid (show k = j + 1 ∧ j < o.length ∧ o.length ≤ 1000 by have := HOL.out; omega)
              have HY := Lib.hid (show o[j]? = some o[j] from List.getElem?_eq_getElem hjl)
              subst hB
              have q1 : (k : Int) - 1 = j := by omega
              have q2 := wrap_small (a := j) (by have := HJ.out; omega)
              have q3 : (0 : Int) < (k : Int) := by omega
              have q4 : (0 : Int) ≤ (j : Int) := by omega
              have q5 : (j : Int) < (o.length : Int) := by omega
              have HLE : Hid (ltV ⟨v1, v2, v3, v4⟩ o[j] = false → ∀ (j' : Nat) (y : Vc), j' < k → o[j']? = some y → Srt.Le ltV y ⟨v1, v2, v3, v4⟩) := Lib.hid fun h j' y hj' hy =>
                tot.le_trans (Srt.le_or tot HI2.out (Nat.zero_le _) (show j' ≤ j by omega) hjl hy HY.out) h
              have HLT : Hid (ltV ⟨v1, v2, v3, v4⟩ o[j] = true → ∀ (j' : Nat) (y : Vc), j ≤ j' → o[j']? = some y → ltV ⟨v1, v2, v3, v4⟩ y = true) := Lib.hid fun h j' y hj' hy => by
                by_cases e : j' = j
                · subst e
                  rw [HY.out] at hy
                  cases hy
                  exact h
                · exact HR.out j' y (by omega) hy
              have HBT' := Lib.hid (HBT.out ⟨v1, v2, v3, v4⟩ o[j])
              clear hj
              generalize o[j] = y at *
              cases hx : ltV ⟨v1, v2, v3, v4⟩ y
              all_goals
                rw [hx] at HBT' HLE HLT
                clear hx
                obtain ⟨y1, y2, y3, y4⟩ := y
                simp only at d0 d1 d2 d3
                go_wp2_with fail
                go_region_held3 (fun w' => w'.cell? ⟨M, 0, none⟩ = some (.int .u64 v1) ∧ w'.cell? ⟨M, 1, none⟩ = some (.int .u64 v2) ∧ w'.cell? ⟨M, 2, none⟩ = some (.int .u64 v3) ∧ w'.cell? ⟨M, 3, none⟩ = some (.int .i64 v4) ∧ w'.cell? ⟨b1, p1 + j * 4, none⟩ = some (.int .u64 y1) ∧ w'.cell? ⟨b1, p1 + j * 4 + 1, none⟩ = some (.int .u64 y2) ∧ w'.cell? ⟨b1, p1 + j * 4 + 2, none⟩ = some (.int .u64 y3) ∧ w'.cell? ⟨b1, p1 + j * 4 + 3, none⟩ = some (.int .i64 y4))
                  (first | go_keep | (go_split_ands; exact ⟨Bx.keep_cell (by assumption) (by assumption), Bx.keep_cell (by assumption) (by assumption), Bx.keep_cell (by assumption) (by assumption), Bx.keep_cell (by assumption) (by assumption), Bx.keep_cell (by assumption) (by assumption), Bx.keep_cell (by assumption) (by assumption), Bx.keep_cell (by assumption) (by assumption), Bx.keep_cell (by assumption) (by assumption)⟩))
                  (first | (go_at_call 20; with_reducible refine (HBT'.out _).mono ?_; rintro e w1 ⟨rfl, hb1⟩))
                have B2 := Lib.hid (HB.out.trans ((Below.refl _ _).drew.trans (hb1.mono HB.out.size)))
                clear hb1 d0 d1 d2 d3 f0 f1 f2 f3
                go_wp2_with fail
              · go_meet
                exact ⟨_, rfl, k, rfl, HK.out, HLE.out (by trivial), HR.out, B2.out⟩
              · go_roundw
                case rel => exact ⟨j, rfl, (by have := HJ.out; show _ ≤ _; omega), HLT.out (by trivial), B2.out⟩
                case measure => have := HJ.out; simp [intOf]; omega
            · obtain rfl : k = 0 := by omega
              go_wp2_with fail
              go_quiet (fail)
              go_wp2_with fail
              go_meet
              exact ⟨_, rfl, 0, rfl, Nat.zero_le _, (fun j y hj => absurd hj (Nat.not_lt_zero _)), HR.out, below_drewN HB.out _⟩
      case rest =>
        obtain ⟨wz, hwz, k, rfl, HK, HLE, HLT, HBZ⟩ := hcut
        subst hwz
        have HPK := Lib.hid (HPN.out k)
        have HIK := Lib.hid (HIN.out k HLE.out HLT.out)
        have HZ2 := Lib.hid (show w.heap.size ≤ wz.heap.size from Nat.le_trans HBX.out.size HBZ.out.size)
        have HBW := Lib.hid (show Below w.heap.size w wz from HBX.out.trans (HBZ.out.mono HBX.out.size))
        have HOZ := Lib.hid (own_keep HOX.out HBZ.out)
        obtain ⟨f0, f1, f2, f3⟩ := (HVB.out.keep HBZ.out).all4
        have HFR := Lib.hid (HVB.out.keep HBZ.out)
        have HWZ := Lib.hid (show M < wz.heap.size from Nat.lt_of_lt_of_le HWR.out HBZ.out.size)
        clear HOX HVB HBX HPN HIN
        have hk0 : (0 : Int) ≤ (k : Int) := by omega
        have hkl : (k : Int) ≤ (o.length : Int) := by have := HK.out; omega
        have HM := Lib.hid (World.ownsRow_made (e := 30) (size := 4) wz #[] 0 (Nat.le_refl _) (Nat.zero_le _) (by simp))
        have HB0 := Lib.hid (Bx.box_below wz (Obj.cells #[] 30))
        have HLN0 := Lib.hid (show (o.take k).length = k ∧ (o.drop k).length = o.length - k by have := HK.out; rw [List.length_take, List.length_drop]; omega)
        clear HBT HA
        cases B with
        | none =>
          obtain ⟨h0, h1⟩ := own_none HOZ.out
          subst h1
          have HE := Lib.hid (List.eq_nil_of_length_eq_zero h0)
          obtain rfl : k = 0 := by have := HK.out; omega
          clear hk0 hkl
          have HTK := Lib.hid (show o.take 0 ++ [(⟨v1, v2, v3, v4⟩ : Vc)] ++ o.drop 0 = [⟨v1, v2, v3, v4⟩] by rw [HE.out]; rfl)
          rw [h0]
          clear h0
          go_upto_region 9 with (at_builtin; refine wpList_append_own_none rfl _ _ 22 rfl wz.heap.size 30 i0 4 Tryd.underlying22 hi _ _ _ rfl HM.out rfl ?_)
          have HF2 := Lib.hid (HFR.out.keep HB0.out)
          generalize hW2 : wz.alloc (.cells #[] 30) = W2 at *
          clear hW2 f0 f1 f2 f3
          have HM2 := Lib.hid (own_keep HM.out (Bx.box_below W2 (vo ⟨v1, v2, v3, v4⟩)))
          obtain ⟨f0', f1', f2', f3'⟩ := HF2.out.all4
          go_wp2_with (at_builtin; refine wpList_append_own _ rfl _ _ 22 rfl wz.heap.size 30 i0 (.agg #[.int .u64 0, .int .u64 0, .int .u64 0, .int .i64 0]) 4 32 Tryd.underlying22 hi hz0 hz1 hz2 rfl (by decide) _ _ _ rfl HM2.out ⟨_, 0, none⟩ 1 1 (enc ⟨v1, v2, v3, v4⟩) rfl rfl ?a2 ?a3 ?a4 ?a5 ?a6 ?_)
          case a2 => intro j u hu; have h := four_new W2 ⟨v1, v2, v3, v4⟩ 30 j u hu; rwa [Addr.add_lit, Nat.zero_add] at h
          case a3 => intro u hu; exact enc_one [⟨v1, v2, v3, v4⟩] u (by simpa using hu)
          case a4 => unfold maxLen; omega
          case a6 => have := HB0.out.size; simp; omega
          intro v2' w2 hown hgrow _
          have hb2 := (Bx.bel_box HB0.out (vo ⟨v1, v2, v3, v4⟩)).grown hgrow (by have := HB0.out.size; simp; omega) (fun q hq => (HM2.out.lt q hq).1)
          have HN2 := Lib.hid (Nx.mk (l := [(⟨v1, v2, v3, v4⟩ : Vc)]) hown rfl (by simp))
          have B2 := Lib.hid (HBW.out.trans (hb2.mono HZ2.out))
          clear hown hgrow hb2
          obtain ⟨B2', c2', rfl, ho2⟩ := HN2.out
          have HO2 := Lib.hid ho2
          clear ho2 HN2
          go_wp2_with (at_builtin; refine wpList_append_own_none rfl _ _ 22 rfl wz.heap.size 30 i0 4 Tryd.underlying22 hi _ _ _ rfl HO2.out rfl ?_)
          go_wp2
          go_roundw
          case rel => exact ⟨i + 1, B2', c2', _, by omega, by go_num, rfl, by rw [← HTK.out]; exact HPK.out, by rw [← HTK.out]; exact HIK.out, own_mono HO2.out HZ2.out, B2.out⟩
          case measure => simp [intOf]; omega
        | some ad =>
          obtain ⟨g, rfl⟩ := own_addr HOZ.out
          have hcc := own_cap HOZ.out
          have hkc : (k : Int) ≤ (cc : Int) := by omega
          have hoc : (o.length : Int) ≤ (cc : Int) := by omega
          obtain ⟨L1, hL1⟩ : ∃ L1, L1 = o.take k := ⟨_, rfl⟩
          obtain ⟨L3, hL3⟩ : ∃ L3, L3 = o.drop k := ⟨_, rfl⟩
          have HT1 := Lib.hid (enc_cells (((own_vs HOZ.out).take k).below HB0.out))
          have HLN := HLN0
          rw [← hL1] at HT1 HPK HIK HLN
          rw [← hL3] at HPK HIK HLN
          have HL1 := Lib.hid hL1
          have HL3 := Lib.hid hL3
          clear hL1 hL3 HLN0
          have HT1o := Lib.hid (enc_one L1)
          have HT1l := Lib.hid (show (L1.flatMap enc).length = k * 4 by rw [enc_length, HLN.out.1])
          obtain ⟨xs1, hxs1⟩ : ∃ xs1, xs1 = L1.flatMap enc := ⟨_, rfl⟩
          rw [← hxs1] at HT1 HT1o HT1l
          have HX1 := Lib.hid hxs1
          clear hxs1
          go_wp2_with (at_builtin; refine wpList_append_own _ rfl _ _ 22 rfl wz.heap.size 30 i0 (.agg #[.int .u64 0, .int .u64 0, .int .u64 0, .int .i64 0]) 4 32 Tryd.underlying22 hi hz0 hz1 hz2 rfl (by decide) _ _ _ rfl HM.out ⟨g, 0, none⟩ k cc xs1 rfl ?b1 ?b2 ?b3 ?b4 ?b5 (by simp) ?_)
          case b1 => exact HT1l.out
          case b2 => first | exact HT1.out | (intro j u hu; have h := HT1.out j u hu; rwa [Addr.add_lit, Nat.zero_add] at h)
          case b3 => exact HT1o.out
          case b4 => have := HK.out; have := HOL.out; unfold maxLen; omega
          case b5 => have := HK.out; have := HOL.out; omega
          intro v1' w1 hown hgrow _
          have hb1 := HB0.out.grown hgrow (by simp) (fun q hq => (HM.out.lt q hq).1)
          have HN1 := Lib.hid (Nx.mk (l := L1) hown (by rw [HLN.out.1]) (by rw [← HX1.out]))
          have B1 := Lib.hid hb1
          clear hown hgrow hb1
          obtain ⟨B1', c1', rfl, ho1⟩ := HN1.out
          have HO1 := Lib.hid (own_keep ho1 (Bx.box_below w1 (vo ⟨v1, v2, v3, v4⟩)))
          clear ho1 HN1
          obtain ⟨f0', f1', f2', f3'⟩ := (HFR.out.keep B1.out).all4
          clear f0 f1 f2 f3
          go_wp2_with (at_builtin; refine wpList_append_own _ rfl _ _ 22 rfl wz.heap.size 30 i0 (.agg #[.int .u64 0, .int .u64 0, .int .u64 0, .int .i64 0]) 4 32 Tryd.underlying22 hi hz0 hz1 hz2 rfl (by decide) _ _ _ rfl HO1.out ⟨_, 0, none⟩ 1 1 (enc ⟨v1, v2, v3, v4⟩) rfl rfl ?d2 ?d3 ?d4 ?d5 ?d6 ?_)
          case d2 => intro j u hu; have h := four_new w1 ⟨v1, v2, v3, v4⟩ 30 j u hu; rwa [Addr.add_lit, Nat.zero_add] at h
          case d3 => intro u hu; exact enc_one [⟨v1, v2, v3, v4⟩] u (by simpa using hu)
          case d4 => have := HK.out; have := HOL.out; have := HLN.out; unfold maxLen; omega
          case d5 => have := HK.out; have := HOL.out; have := HLN.out; omega
          case d6 => have := B1.out.size; simp; omega
          intro v2' w2 hown hgrow _
          have hb2 := (Bx.box_below w1 (vo ⟨v1, v2, v3, v4⟩)).mono B1.out.size
          have hb2' := (B1.out.trans hb2).grown hgrow (by have := B1.out.size; simp; omega) (fun q hq => (HO1.out.lt q hq).1)
          have HN2 := Lib.hid (Nx.mk (l := L1 ++ [(⟨v1, v2, v3, v4⟩ : Vc)]) hown (by simp) (by rw [List.flatMap_append]; simp))
          have B2 := Lib.hid hb2'
          clear hown hgrow hb2 hb2'
          obtain ⟨B2', c2', rfl, ho2⟩ := HN2.out
          have HO2 := Lib.hid ho2
          clear ho2 HN2
          have HLT2 := Lib.hid (show (L1 ++ [(⟨v1, v2, v3, v4⟩ : Vc)]).length = k + 1 by rw [List.length_append, HLN.out.1]; rfl)
          have HOW := Lib.hid (own_keep HOZ.out B2.out)
          have HPK2 : Hid ((L1 ++ [(⟨v1, v2, v3, v4⟩ : Vc)] ++ L3).Perm (l.take (i + 1))) := HPK
          have HFIN : Hid (∀ v' w3, w3.ownsRow wz.heap.size 30 4 v' (k + 1 + (o.length - k)) ((L1 ++ [(⟨v1, v2, v3, v4⟩ : Vc)]).flatMap enc ++ L3.flatMap enc) → Nx wz.heap.size w3 v' (L1 ++ [(⟨v1, v2, v3, v4⟩ : Vc)] ++ L3)) := Lib.hid fun v' w3 h => Nx.mk h (by rw [List.length_append, HLT2.out, HLN.out.2]) List.flatMap_append.symm
          rw [HLT2.out] at HO2 ⊢
          by_cases hck : cc = k
          · have HDE := Lib.hid (show L3 = [] by rw [HL3.out]; exact List.drop_eq_nil_of_le (by omega))
            have HOLK := Lib.hid (show o.length = k by omega)
            subst hck
            rw [HDE.out] at HPK2 HIK HFIN
            obtain ⟨xs2, hxs2⟩ : ∃ xs2, xs2 = (L1 ++ [(⟨v1, v2, v3, v4⟩ : Vc)]).flatMap enc := ⟨_, rfl⟩
            rw [← hxs2] at HO2 HFIN
            clear hxs2
            go_wp2_with (at_builtin; refine wpList_append_own _ rfl _ _ 22 rfl wz.heap.size 30 i0 (.agg #[.int .u64 0, .int .u64 0, .int .u64 0, .int .i64 0]) 4 32 Tryd.underlying22 hi hz0 hz1 hz2 rfl (by decide) _ _ _ rfl HO2.out ⟨g, 0, none⟩ 0 0 [] rfl rfl ?h2 ?h3 ?h4 ?h5 ?h6 ?_)
            case h2 => intro j u hu; simp at hu
            case h3 => intro u hu; simp at hu
            case h4 => have := HOLK.out; have := HOL.out; unfold maxLen; omega
            case h5 => have := HOLK.out; have := HOL.out; omega
            case h6 => have := B2.out.size; omega
            intro v3' w3 hown hgrow _
            have hb3 := B2.out.grown hgrow B2.out.size (fun q hq => (HO2.out.lt q hq).1)
            have B3 := Lib.hid (HBW.out.trans (hb3.mono HZ2.out))
            have HN3 := Lib.hid (HFIN.out v3' w3 (by rw [show o.length - cc = 0 by have := HOLK.out; omega]; simpa using hown))
            clear hown hgrow hb3
            obtain ⟨B3', c3', rfl, ho3⟩ := HN3.out
            have HO3 := Lib.hid ho3
            clear ho3 HN3
            generalize L1 ++ [(⟨v1, v2, v3, v4⟩ : Vc)] ++ [] = LL at *
            go_wp2
            go_roundw
            case rel => exact ⟨i + 1, B3', c3', LL, by omega, by go_num, rfl, HPK2.out, HIK.out, own_mono HO3.out HZ2.out, B3.out⟩
            case measure => simp [intOf]; omega
          · have HT2 := Lib.hid (enc_cells ((Row.vs (row_of_own HOW.out).1).drop k))
            rw [← HL3.out] at HT2
            have HT2o := Lib.hid (enc_one L3)
            have HT2l := Lib.hid (show (L3.flatMap enc).length = (o.length - k) * 4 by rw [enc_length, HLN.out.2])
            obtain ⟨xs3, hxs3⟩ : ∃ xs3, xs3 = L3.flatMap enc := ⟨_, rfl⟩
            rw [← hxs3] at HT2 HT2o HT2l HFIN
            clear hxs3
            obtain ⟨xs2, hxs2⟩ : ∃ xs2, xs2 = (L1 ++ [(⟨v1, v2, v3, v4⟩ : Vc)]).flatMap enc := ⟨_, rfl⟩
            rw [← hxs2] at HO2 HFIN
            clear hxs2
            go_wp2_with (at_builtin; refine wpList_append_own _ rfl _ _ 22 rfl wz.heap.size 30 i0 (.agg #[.int .u64 0, .int .u64 0, .int .u64 0, .int .i64 0]) 4 32 Tryd.underlying22 hi hz0 hz1 hz2 rfl (by decide) _ _ _ rfl HO2.out ⟨g, k * 4, none⟩ (o.length - k) (cc - k) xs3 rfl ?g1 ?g2 ?g3 ?g4 ?g5 ?g6 ?_)
            case g1 => exact HT2l.out
            case g2 => first | exact HT2.out | (intro j u hu; have h := HT2.out j u hu; rwa [Addr.add_lit] at h)
            case g3 => exact HT2o.out
            case g4 => have := HK.out; have := HOL.out; unfold maxLen; omega
            case g5 => have := HK.out; have := HOL.out; omega
            case g6 => have := B2.out.size; omega
            intro v3' w3 hown hgrow _
            have hb3 := B2.out.grown hgrow B2.out.size (fun q hq => (HO2.out.lt q hq).1)
            have B3 := Lib.hid (HBW.out.trans (hb3.mono HZ2.out))
            have HN3 := Lib.hid (HFIN.out v3' w3 hown)
            clear hown hgrow hb3
            obtain ⟨B3', c3', rfl, ho3⟩ := HN3.out
            have HO3 := Lib.hid ho3
            clear ho3 HN3
            generalize L1 ++ [(⟨v1, v2, v3, v4⟩ : Vc)] ++ L3 = LL at *
            go_wp2
            go_roundw
            case rel => exact ⟨i + 1, B3', c3', LL, by omega, by go_num, rfl, HPK2.out, HIK.out, own_mono HO3.out HZ2.out, B3.out⟩
            case measure => simp [intOf]; omega
    · obtain rfl : i = l.length := by omega
      have HF : Hid (SortedG l w (.returned (.slice B o.length cc)) wr) := Lib.hid ⟨B, cc, o, rfl, own_vs HO.out, by have := HP.out; rwa [List.take_length] at this, HI.out, HB.out⟩
      go_wp2
      go_ret
      exact HF.out

end Pre
end Go.Proofs.YtkggphonoihidaaDoor
