/-
  What octet.Pad and octet.Unhex answer, for every argument (texts up to a length that the theorem names), and that they change nothing that was there.
-/
import Derived.Test.YtjljfigppbahfaaDoorOct
import Derived.Test.YtjljfigppbahfaaDoorShelf
import Derived.Deep.LoopGhost
namespace Go.Proofs.YtjljfigppbahfaaDoor
open Go.RowKit
namespace Oct

/-- A text with bytes 0 behind it. -/
def padS (s : ByteArray) (n : Int) : ByteArray := s ++ ⟨(List.replicate (min n 9216 - s.size).toNat 0).toArray⟩

theorem padS_none (s : ByteArray) (n : Int) (h : min n 9216 ≤ s.size) : padS s n = s := by
  unfold padS
  rw [show (min n 9216 - s.size).toNat = 0 by omega]
  apply ByteArray.ext
  simp

theorem index_unD (c : UInt8) : Lib.indexByte [48, 49, 50, 51, 52, 53, 54, 55, 56, 57, 97, 98, 99, 100, 101, 102] c = unD c := by
  have h' : ∀ n : Fin 256, Lib.indexByte [48, 49, 50, 51, 52, 53, 54, 55, 56, 57, 97, 98, 99, 100, 101, 102] (UInt8.ofNat n.1) = unD (UInt8.ofNat n.1) := by decide +kernel
  have := h' ⟨c.toNat, c.toNat_lt⟩
  simpa using this

/-- Unhex's answer. -/
def unhexS (s : ByteArray) : ByteArray := ⟨((unhexL s.data.toList).getD []).toArray⟩
def unhexE (s : ByteArray) : Int := if s.size % 2 ≠ 0 then 2 else if unhexL s.data.toList = none then 3 else 0

theorem index_any (a : UInt8) (w : World) :
    Calls Tryd.prog 38 #[.string ⟨#[48, 49, 50, 51, 52, 53, 54, 55, 56, 57, 97, 98, 99, 100, 101, 102]⟩, .int .u8 (a.toNat : Int)] w fun e w' => e = .returned (.int .i64 (unD a)) ∧ w = w' := by
  refine (Tryd.strings_IndexByte _ _ w).mono ?_
  rintro e w' ⟨rfl, rfl⟩
  refine ⟨?_, rfl⟩
  have : ((a.toNat : Int).toNat).toUInt8 = a := by simp
  rw [this, ← index_unD a]

theorem bytes_at (s : ByteArray) (a cap j : Nat) (hj : j < 2) (h : a + 2 ≤ s.size) : (bytesRow (s.extract a (a + 2)) cap)[j]? = some (.int .u8 ((s[a + j]'(by omega)).toNat : Int)) := by
  have hz : (s.extract a (a + 2)).data.size = 2 := by
    have : (s.extract a (a + 2)).size = 2 := by simp; omega
    exact this
  unfold bytesRow
  rw [Array.getElem?_append_left (by simp; omega), Array.getElem?_map]
  have e : (s.extract a (a + 2)).data[j]? = some (s[a + j]'(by omega)) := by
    rw [ByteArray.data_extract, Array.getElem?_extract]
    rw [if_pos (by have : s.data.size = s.size := rfl; omega)]
    exact Array.getElem?_eq_getElem (by have : s.data.size = s.size := rfl; omega)
  rw [e]
  rfl

theorem unhex_bad (s : ByteArray) (n : Nat) (hn : s.size = 2 * n) (h : unhexL s.data.toList = none) : unhexS s = ByteArray.empty ∧ unhexE s = 3 := by
  refine ⟨by unfold unhexS; rw [h]; rfl, ?_⟩
  unfold unhexE
  rw [if_neg (by omega), if_pos h]

theorem unhex_good (s : ByteArray) (n : Nat) (hn : s.size = 2 * n) (v : List UInt8) (h : unhexL s.data.toList = some v) : unhexS s = ⟨v.toArray⟩ ∧ unhexE s = 0 := by
  refine ⟨by unfold unhexS; rw [h]; rfl, ?_⟩
  unfold unhexE
  rw [if_neg (by omega), if_neg (by rw [h]; simp)]

theorem or_first (d : Int) (h0 : 0 ≤ d) (h1 : d ≤ 15) : bits .or .u8 0 d = d := by
  have := u8_or 0 d (by omega) (by omega) h0 (by omega)
  rw [this]; simp; omega

theorem or_second (c d : Int) (g0 : 0 ≤ c) (g1 : c ≤ 15) (h0 : 0 ≤ d) (h1 : d ≤ 15) : bits .or .u8 (c * 16) d = c * 16 + d := by
  rw [u8_or _ d (by omega) (by omega) h0 (by omega)]
  have : (c * 16).toNat ||| d.toNat = 16 * c.toNat + d.toNat := by
    rw [show (c * 16).toNat = 2 ^ 4 * c.toNat by omega, ← Nat.two_pow_add_eq_or_of_lt (by omega)]
  rw [this]; omega

theorem unhex_cells (v : List UInt8) (k g : Nat) (hv : v.length = k) (X : Value) (c d : Int) (g0 : 0 ≤ c) (g1 : c ≤ 15) (h0 : 0 ≤ d) (h1 : d ≤ 15) :
    ((bv (v ++ List.replicate (g + 1) 0)).set k X).set k (.int .u8 (c * 16 + d)) = bv ((v ++ [UInt8.ofNat (16 * c.toNat + d.toNat)]) ++ List.replicate g 0) := by
  rw [List.set_set]
  have e : (.int .u8 (c * 16 + d) : Value) = .int .u8 ((UInt8.ofNat (16 * c.toNat + d.toNat)).toNat : Int) := by
    congr 1
    simp
    omega
  rw [e]
  unfold bv
  rw [← List.map_set (f := fun b : UInt8 => Value.int .u8 (b.toNat : Int)), List.set_append_right _ _ (by omega), hv, Nat.sub_self, List.replicate_succ]
  simp

/-- []byte of two bytes of a text. -/
theorem two_bytes (s : ByteArray) (k : Nat) (h : 2 * k + 2 ≤ s.size) (w : World) : ∃ (cap m : Nat) (C : Array Value),
    (convert 9 48 (.string (s.extract (2 * k) (2 * k + 2)))).run Tryd.prog w = .ok (.slice (some ⟨w.heap.size, 0, none⟩) 2 cap) (w.alloc (.cells C 5 (m, m + 1))).drew ∧
    (w.alloc (.cells C 5 (m, m + 1))).cell? ⟨w.heap.size, 0, none⟩ = some (.int .u8 (s[2 * k].toNat : Int)) ∧ (w.alloc (.cells C 5 (m, m + 1))).cell? ⟨w.heap.size, 1, none⟩ = some (.int .u8 (s[2 * k + 1].toNat : Int)) := by
  have hz : (s.extract (2 * k) (2 * k + 2)).size = 2 := by simp; omega
  have hrun := run_bytes_of_string (P := Tryd.prog) w 9 48 5 (s.extract (2 * k) (2 * k + 2)) Tryd.underlying9 Tryd.underlying48 Tryd.underlying5
  rw [hz] at hrun
  refine ⟨_, _, _, hrun, ?_, ?_⟩
  · rw [World.cell?_alloc_mark]
    exact bytes_at s (2 * k) _ 0 (by omega) (by omega)
  · rw [World.cell?_alloc_mark]
    exact bytes_at s (2 * k) _ 1 (by omega) (by omega)

theorem own_lt {w : World} {base g n cap : Nat} {xs : List Value} {e : TypeId} (h : w.ownsRow base e 1 (.slice (some ⟨g, 0, none⟩) n cap) n xs) : g < w.heap.size := by
  rcases h.2 with ⟨h', _⟩ | ⟨g', cap', cur, h', _, hg, _⟩
  · simp at h'
  · simp only [Value.slice.injEq, Option.some.injEq, Addr.mk.injEq, and_true, true_and] at h'
    obtain ⟨rfl, rfl⟩ := h'
    exact (Array.getElem?_eq_some_iff.1 hg).1

theorem unhex_none (l : List UInt8) (k : Nat) (a b : UInt8) (r v : List UInt8) (h : l.drop (2 * k) = a :: b :: r) (hv : unhexL (l.take (2 * k)) = some v) (hab : unD a < 0 ∨ unD b < 0) : unhexL l = none := by
  have hl : 2 * k ≤ l.length := by
    have := congrArg List.length h
    simp at this; omega
  have e := unhexL_append (l.take (2 * k)) (l.drop (2 * k)) (by simp; omega)
  rw [List.take_append_drop, hv, h] at e
  rw [e]
  simp [unhexL, hab]

theorem drop_two (s : ByteArray) (k : Nat) (h : 2 * k + 2 ≤ s.size) : s.data.toList.drop (2 * k) = s[2 * k] :: s[2 * k + 1] :: s.data.toList.drop (2 * k + 2) := by
  rw [List.drop_eq_getElem_cons (by simp; omega), List.drop_eq_getElem_cons (by simp; omega)]
  rfl

theorem unhex_next (s : ByteArray) (k : Nat) (h : 2 * k + 2 ≤ s.size) (v : List UInt8) (hv : unhexL (s.data.toList.take (2 * k)) = some v) (h1 : ¬ unD s[2 * k] < 0) (h2 : ¬ unD s[2 * k + 1] < 0) :
    unhexL (s.data.toList.take (2 * (k + 1))) = some (v ++ [UInt8.ofNat (16 * (unD s[2 * k]).toNat + (unD s[2 * k + 1]).toNat)]) := by
  have e0 : s.data.toList.take (2 * (k + 1)) = s.data.toList.take (2 * k) ++ [s[2 * k], s[2 * k + 1]] := by
    rw [show 2 * (k + 1) = 2 * k + 1 + 1 by omega, take_snoc s (2 * k + 1) (by omega), take_snoc s (2 * k) (by omega), List.append_assoc]; rfl
  rw [e0, unhexL_append _ _ (by simp; omega), hv]
  simp [unhexL, h1, h2]

set_option maxHeartbeats 400000 in
/-- Unhex(s). -/
theorem unhex_even (s : ByteArray) (w : World) (hs : s.size ≤ 1048576) (h2 : s.size % 2 = 0) :
    Calls Tryd.prog 28 #[.string s] w fun e w' => e = .returned (.tuple #[.string (unhexS s), .int .i64 (unhexE s)]) ∧ Below w.heap.size w w' := by
  obtain ⟨i0, hi, hz0, hz1, hz2⟩ := info_parts info5
  obtain ⟨n, hn⟩ : ∃ n, s.size = 2 * n := ⟨s.size / 2, by omega⟩
  have q1 : ((s.size : Int) % 2 != 0) = false := by rw [hn]; simp
  have q2 : (s.size : Int) / 2 = n := by rw [hn]; omega
  have HN := Lib.hid hn
  clear hn h2
  go_enter Tryd.func28, Tryd.ntmps28
  go_wp2
  go_step3
  go_wp2_with (at_make; refine wpList_make_full _ rfl (.tmp 16) (.tmp 16) 48 rfl w.heap.size 5 i0 (.int .u8 0) 1 Tryd.underlying48 hi hz0 hz1 .i64 .i64 _ _ n rfl rfl ?h1 ?h2 ?h3 ?h4 (Nat.le_refl _) ?_)
  case h1 => have := HN.out; omega
  case h2 => have := HN.out; omega
  case h3 => have := HN.out; rw [hz2]; omega
  case h4 => have := HN.out; unfold maxLen; omega
  intro w1 hown hgrow
  rw [made_zeros] at hown
  go_wp2
  go_step3
  go_wp2
  go_loopg [5, 20] n (fun g e i wr => ∃ (k : Nat) (v : List UInt8), k + g = n ∧ i = .int .i64 k ∧ e = .int .i64 0 ∧ Aside (unhexL (s.data.toList.take (2 * k)) = some v) ∧
    wr.ownsRow w.heap.size 5 1 (.slice (some ⟨w.heap.size, 0, none⟩) n n) n (bv (v ++ List.replicate g 0)) ∧ Below w.heap.size w wr)
  case atStart => exact ⟨0, [], by omega, rfl, rfl, rfl, hown, (Below.refl _ _).grown hgrow (Nat.le_refl _) (by simp)⟩
  case round =>
    obtain ⟨k, v, hkg, rfl, rfl, HV, ho, hb⟩ := hrel
    cases gk with
    | zero =>
      have hk : k = n := by omega
      subst hk
      have HU := Lib.hid (unhex_good s k HN.out v (by have := HV.out; rwa [List.take_of_length_le (by have := HN.out; simp; omega)] at this))
      simp only [List.replicate_zero, List.append_nil] at ho
      have hcv := conv_back ho
      go_wp2
      rw [Exit.noGoto_ret]
      go_ret2
      exact ⟨by rw [HU.out.1, HU.out.2]; rfl, hb⟩
    | succ g2 =>
      have hlt : 2 * k + 2 ≤ s.size := by have := HN.out; omega
      have hlt2 : (k : Int) < (n : Int) := by omega
      have hvl : v.length = k := by have := unhexL_length _ _ HV.out; have h' := HN.out; simp at this; omega
      obtain ⟨cap, m, C, hcv, hc0, hc1⟩ := two_bytes s k hlt wr
      have hcl : wr.cell? ⟨w.heap.size, k, none⟩ = some (.int .u8 0) := by rw [ho.cellAt k (by omega)]; simp [bv, hvl]
      have hfz := ho.frozenAt k
      have hws := own_lt ho
      have HH := Lib.hid (And.intro hvl (And.intro ho hb))
      clear hvl ho hb
      by_cases d1 : unD s[2 * k] < 0
      · have HU := Lib.hid (unhex_none _ k _ _ _ v (drop_two s k hlt) HV.out (.inl d1))
        generalize s[2 * k] = a at *
        generalize s[2 * k + 1] = b at *
        go_wp2
        refine wp_loop_rounds 3 ?_; rw [rounds_succ]
        go_wp2_with (go_at_call 38; refine (index_any _ _).mono ?_; rintro e w' ⟨rfl, rfl⟩)
        rw [Exit.noGoto_ret]
        go_ret2
        exact ⟨by rw [(unhex_bad s n HN.out HU.out).1, (unhex_bad s n HN.out HU.out).2]; rfl, ((HH.out.2.2.alloc HH.out.2.2.size _).drew)⟩
      · by_cases d2 : unD s[2 * k + 1] < 0
        · have HU := Lib.hid (unhex_none _ k _ _ _ v (drop_two s k hlt) HV.out (.inr d2))
          have hr1 := unD_range s[2 * k]
          generalize s[2 * k] = a at *
          generalize s[2 * k + 1] = b at *
          have hor := or_first (unD a) (by omega) hr1.2
          have hc1' : ((wr.setCell ⟨w.heap.size, k, none⟩ (.int .u8 (unD a))).alloc (.cells C 5 (m, m + 1))).cell? ⟨wr.heap.size, 1, none⟩ = some (.int .u8 (b.toNat : Int)) := by
            have := hc1; rw [World.cell?_alloc_mark] at this
            have e := World.cell?_alloc_mark (wr.setCell ⟨w.heap.size, k, none⟩ (.int .u8 (unD a))) C 5 (m, m + 1) 1
            rw [World.size_setCell] at e
            rw [e, this]
          clear hc1
          go_wp2
          refine wp_loop_rounds 3 ?_; rw [rounds_succ]
          go_wp2_with (go_at_call 38; refine (index_any _ _).mono ?_; rintro e w' ⟨rfl, rfl⟩)
          rw [rounds_succ]
          go_wp2_with (go_at_call 38; refine (index_any _ _).mono ?_; rintro e w' ⟨rfl, rfl⟩)
          rw [Exit.noGoto_ret]
          go_ret2
          have hB := HH.out.2.2.setCell (p := ⟨w.heap.size, k, none⟩) (Nat.le_refl _) (.int .u8 (unD a))
          exact ⟨by rw [(unhex_bad s n HN.out HU.out).1, (unhex_bad s n HN.out HU.out).2]; rfl, ((hB.alloc hB.size _).drew)⟩
        · have HU := Lib.hid (unhex_next s k hlt v HV.out d1 d2)
          have hr1 := unD_range s[2 * k]
          have hr2 := unD_range s[2 * k + 1]
          generalize s[2 * k] = a at *
          generalize s[2 * k + 1] = b at *
          have hor := or_first (unD a) (by omega) hr1.2
          have hor2 := or_second (unD a) (unD b) (by omega) hr1.2 (by omega) hr2.2
          have hc1' : ((wr.setCell ⟨w.heap.size, k, none⟩ (.int .u8 (unD a))).alloc (.cells C 5 (m, m + 1))).cell? ⟨wr.heap.size, 1, none⟩ = some (.int .u8 (b.toNat : Int)) := by
            have := hc1; rw [World.cell?_alloc_mark] at this
            have e := World.cell?_alloc_mark (wr.setCell ⟨w.heap.size, k, none⟩ (.int .u8 (unD a))) C 5 (m, m + 1) 1
            rw [World.size_setCell] at e
            rw [e, this]
          clear hc1
          go_wp2
          refine wp_loop_rounds 3 ?_; rw [rounds_succ]
          go_wp2_with (go_at_call 38; refine (index_any _ _).mono ?_; rintro e w' ⟨rfl, rfl⟩)
          rw [rounds_succ]
          go_wp2_with (go_at_call 38; refine (index_any _ _).mono ?_; rintro e w' ⟨rfl, rfl⟩)
          rw [rounds_succ]
          go_wp2
          have hB := (HH.out.2.2.setCell (p := ⟨w.heap.size, k, none⟩) (Nat.le_refl _) (.int .u8 (unD a))).setCell (p := ⟨w.heap.size, k, none⟩) (Nat.le_refl _) (.int .u8 (unD a * 16 + unD b))
          have hO := ((HH.out.2.1.stored k (.int .u8 (unD a))).1.stored k (.int .u8 (unD a * 16 + unD b))).1
          rw [unhex_cells v k g2 HH.out.1 _ (unD a) (unD b) (by omega) hr1.2 (by omega) hr2.2] at hO
          go_roundg g2
          case measure => omega
          case rel => exact ⟨k + 1, _, by omega, by go_num, rfl, HU.out, (hO.alloc _).drew, (hB.alloc hB.size _).drew⟩

theorem unhexL_odd (l : List UInt8) (h : l.length % 2 ≠ 0) : unhexL l = none := by
  cases hl : unhexL l with
  | none => rfl
  | some x => have := unhexL_length l x hl; omega

set_option maxHeartbeats 400000 in
/-- Unhex(s). -/
theorem unhex_any (s : ByteArray) (w : World) (hs : s.size ≤ 1048576) :
    Calls Tryd.prog 28 #[.string s] w fun e w' => e = .returned (.tuple #[.string (unhexS s), .int .i64 (unhexE s)]) ∧ Below w.heap.size w w' := by
  by_cases h2 : s.size % 2 = 0
  · exact unhex_even s w hs h2
  · have e1 : unhexS s = ByteArray.empty := by unfold unhexS; rw [unhexL_odd _ (by simpa using h2)]; rfl
    have e2 : unhexE s = 2 := by unfold unhexE; rw [if_pos h2]
    rw [e1, e2]; clear e1 e2
    have q1 : ((s.size : Int) % 2 != 0) = true := by simp; omega
    clear h2
    go_enter Tryd.func28, Tryd.ntmps28
    go_wp2
    go_step3
    go_wp2
    rw [Exit.noGoto_ret]
    go_ret2
    exact ⟨rfl, Below.refl _ _⟩

end Oct
end Go.Proofs.YtjljfigppbahfaaDoor
