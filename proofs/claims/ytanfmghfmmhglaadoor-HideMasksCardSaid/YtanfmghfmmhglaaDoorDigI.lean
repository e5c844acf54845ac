/-
  What digest.Sum answers.
-/
import Derived.Test.YtanfmghfmmhglaaDoorDigG
import Derived.Test.YtanfmghfmmhglaaDoorDigE
import Derived.Maps.AppendAt
import Derived.OwnWalk
namespace Go.Proofs.YtanfmghfmmhglaaDoor
open Go.RowKit
namespace Dig
open Fr Oct

theorem add2_lt (a b : Nat) : add2 a b < 4294967296 := Nat.mod_lt _ (by omega)

theorem blockN_ok (h : Q) (hh : h.ok) (l : List UInt8) : (blockN h l).ok := by
  unfold blockN
  split
  · exact ⟨add2_lt _ _, add2_lt _ _, add2_lt _ _, add2_lt _ _⟩
  · exact hh

theorem initQ_ok : initQ.ok := by unfold Q.ok initQ; decide

theorem blocksN_ok (p : List UInt8) (k : Nat) : (blocksN p k).ok := by
  induction k with
  | zero => exact initQ_ok
  | succ k ih => exact blockN_ok _ ih _

theorem padL_length (l : List UInt8) : (padL l).length = 64 * ((l.length + 72) / 64) := by
  unfold padL zerosN
  simp [lowL_length]
  omega

/-- What Sum finds in memory: the words so far, the tables. -/
def SFound (w : World) (q : Q) (wr : World) : Prop := Bx.Own wr w.heap.size (qL q) ∧ Home wr ∧ Below w.heap.size w wr

theorem SFound.keep {w wr w1 : World} {q : Q} (f : SFound w q wr) (hb : Below wr.heap.size wr w1) : SFound w q w1 := ⟨f.1.keep hb, f.2.1.below hb, Bx.then_below f.2.2 hb⟩

theorem SFound.put {w wr : World} {q r : Q} (f : SFound w q wr) (hg : 1 < w.heap.size ∧ 0 < w.heap.size) : SFound w r (wr.setCells w.heap.size 0 (qL r)) := by
  refine ⟨f.1.put rfl, ?_, Bx.bel_cells f.2.2 (Nat.le_refl _)⟩
  obtain ⟨h1, h2, h3, h4⟩ := f.2.1
  refine ⟨fun j hj => Bx.cell_cells (h1 j hj) (by omega), fun j hj => Bx.cell_cells (h2 j hj) (by omega), ?_, ?_⟩
  · exact Nat.lt_of_lt_of_le hg.1 (Bx.bel_cells f.2.2 (Nat.le_refl _)).size
  · exact Nat.lt_of_lt_of_le hg.2 (Bx.bel_cells f.2.2 (Nat.le_refl _)).size

theorem drop_take (p : List UInt8) (r : ByteArray) (j : Nat) (h : r.data.toList = p.drop (64 * j)) : (r.extract 0 64).data.toList = (p.drop (64 * j)).take 64 := by
  rw [← h]
  simp

theorem drop_next (p : List UInt8) (r : ByteArray) (j : Nat) (h : r.data.toList = p.drop (64 * j)) : (r.extract 64 r.size).data.toList = p.drop (64 * (j + 1)) := by
  have h' : (r.extract 64 r.size).data.toList = r.data.toList.drop 64 := by
    rw [ByteArray.data_extract, Array.toList_extract, List.extract_eq_take_drop]
    apply List.take_of_length_le
    simp
  rw [h', h, List.drop_drop]
  congr 1

theorem low_word (x : Nat) (hx : x < 4294967296) : bv (lowL x 4) = [Value.int IntKind.u8 ((x : Int) % 256), Value.int IntKind.u8 ((x : Int) / 256 % 256), Value.int IntKind.u8 ((x : Int) / 65536 % 256), Value.int IntKind.u8 ((x : Int) / 16777216)] := by
  simp only [lowL, bv, List.map_cons, List.map_nil, UInt8.toNat_ofNat', List.cons.injEq, Value.int.injEq, true_and, and_true]
  omega

theorem bv_append (l m : List UInt8) : bv (l ++ m) = bv l ++ bv m := by simp [bv]

theorem out_cells (a b c d : Nat) (ha : a < 4294967296) (hb : b < 4294967296) (hc : c < 4294967296) (hd : d < 4294967296) : bv (outL ⟨a, b, c, d⟩) = [] ++ [Value.int IntKind.u8 ((a : Int) % 256)] ++ [Value.int IntKind.u8 ((a : Int) / 256 % 256)] ++ [Value.int IntKind.u8 ((a : Int) / 65536 % 256)] ++ [Value.int IntKind.u8 ((a : Int) / 16777216)] ++ [Value.int IntKind.u8 ((b : Int) % 256)] ++ [Value.int IntKind.u8 ((b : Int) / 256 % 256)] ++ [Value.int IntKind.u8 ((b : Int) / 65536 % 256)] ++ [Value.int IntKind.u8 ((b : Int) / 16777216)] ++ [Value.int IntKind.u8 ((c : Int) % 256)] ++ [Value.int IntKind.u8 ((c : Int) / 256 % 256)] ++ [Value.int IntKind.u8 ((c : Int) / 65536 % 256)] ++ [Value.int IntKind.u8 ((c : Int) / 16777216)] ++ [Value.int IntKind.u8 ((d : Int) % 256)] ++ [Value.int IntKind.u8 ((d : Int) / 256 % 256)] ++ [Value.int IntKind.u8 ((d : Int) / 65536 % 256)] ++ [Value.int IntKind.u8 ((d : Int) / 16777216)] := by
  unfold outL
  rw [bv_append, bv_append, bv_append, low_word a ha, low_word b hb, low_word c hc, low_word d hd]
  rfl

theorem app_below {w W w2 : World} {o : Obj} {g : Nat} (hb : Below w.heap.size w W) (hg : (W.alloc o).grownBy w2 (some g)) (h : w.heap.size ≤ g) : Below w.heap.size w w2 :=
  (Bx.bel_box hb o).grown hg (by have := hb.size; simp; omega) (by intro k hk; cases hk; exact h)

set_option maxRecDepth 20000 in
set_option maxHeartbeats 1000000 in
theorem sum_any (s : ByteArray) (w : World) (hs : s.size ≤ 1048576) (hm : Home w) :
    Calls Tryd.prog 21 #[.string s] w fun e w' => e = .returned (.string ⟨(sumL s.data.toList).toArray⟩) ∧ Below w.heap.size w w' := by
  have HP := Lib.hid (fun w => dpad_any s w hs)
  obtain ⟨p, hp⟩ : ∃ p, padL s.data.toList = p := ⟨_, rfl⟩
  obtain ⟨n, hn⟩ : ∃ n, n = p.length / 64 := ⟨_, rfl⟩
  have hpl : p.length = 64 * n := by
    have := padL_length s.data.toList
    rw [hp] at this
    omega
  have hpb : p.length ≤ 1048700 := by
    have := padL_length s.data.toList
    rw [hp] at this
    have h2 : s.data.toList.length = s.size := by simp
    omega
  have HS : Hid (sumL s.data.toList = outL (blocksN p n)) := Lib.hid (by unfold sumL; rw [hp, hn])
  rw [hp] at HP
  clear hp hn
  have hg : 1 < w.heap.size ∧ 0 < w.heap.size := hm.2.2
  have HG := Lib.hid hg
  have HM := Lib.hid hm
  have HPL := Lib.hid hpl
  clear hm hpl hs hg
  go_enter Tryd.func21, Tryd.ntmps21
  go_wp2_with fail
  refine (HP.out _).mono ?_
  rintro e w1 ⟨rfl, hb1⟩
  have HF : Hid (SFound w initQ w1) := Lib.hid ⟨(Bx.Own.new w (qL initQ) 35).keep hb1, HM.out.below (Bx.then_below (Bx.box_below _ _) hb1), Bx.then_below (Bx.box_below _ _) hb1⟩
  clear hb1
  go_wp2
  go_loopw [4] (fun v wr => ∃ (j : Nat) (r : ByteArray), j ≤ n ∧ v = .string r ∧ Hid (r.data.toList = p.drop (64 * j)) ∧ Hid (SFound w (blocksN p j) wr)) (fun v _ => match v with | .string r => r.size | _ => 0)
  case atStart => exact ⟨0, _, Nat.zero_le _, rfl, Lib.hid (by simp), HF⟩
  case round =>
    obtain ⟨j, r, hj, rfl, HR, HW⟩ := hrel
    have hrs : r.size = 64 * (n - j) := by
      have := congrArg List.length HR.out
      have h2 := HPL.out
      simp at this
      omega
    by_cases hlt : j < n
    · have z : r.toList.isEmpty = false := by
        rw [ByteArray.toList_eq]
        cases hl : r.data.toList with
        | nil =>
          have h1 : r.data.toList.length = r.size := by simp
          rw [hl, List.length_nil] at h1
          omega
        | cons _ _ => rfl
      have h64 : 64 ≤ r.size := by omega
      have h64i : (64 : Int) ≤ (r.size : Int) := by omega
      have HZ := Lib.hid hrs
      clear hrs
      obtain ⟨⟨a, b, c, d⟩, hq⟩ : ∃ q, blocksN p j = q := ⟨_, rfl⟩
      have hok := blocksN_ok p j
      rw [hq] at HW hok
      have HB := Lib.hid (fun w hm => block_any ⟨a, b, c, d⟩ hok (r.extract 0 64) w hm)
      rw [drop_take p r j HR.out] at HB
      have HQ : Hid (blocksN p (j + 1) = blockN ⟨a, b, c, d⟩ ((p.drop (64 * j)).take 64)) := Lib.hid (by rw [blocksN, hq])
      generalize blockN ⟨a, b, c, d⟩ ((p.drop (64 * j)).take 64) = q2 at *
      have HD := Lib.hid (drop_next p r j HR.out)
      clear hq hok
      obtain ⟨h0, h1, h2, h3⟩ := HW.out.1.1.all4
      go_wp2
      go_still_tail 3, (by kernel_rfl)
      change wpList _ _ _ _ _ wr.drew
      have HW2 : Hid (SFound w ⟨a, b, c, d⟩ wr.drew) := Lib.hid ⟨HW.out.1, HW.out.2.1, HW.out.2.2.drew⟩
      clear HW h0 h1 h2 h3
      generalize wr.drew = w2 at *
      go_wp2_with fail
      refine (HB.out _ HW2.out.2.1).mono ?_
      rintro e w3 ⟨rfl, hb3⟩
      have HW3 := Lib.hid (HW2.out.keep hb3)
      have HW4 := Lib.hid (HW3.out.put (r := q2) HG.out)
      clear hb3 HW2
      go_wp2_with (refine Bx.step_store (op := ⟨none, _, _, _, _, _⟩) rfl 35 (.tmp 3) (.tmp 19) rfl w.heap.size (qL ⟨a, b, c, d⟩) (qL q2) rfl rfl rfl info_q (by simp [Value.oneCell']) HW3.out.1 ?_)
      go_roundw
      case rel => exact ⟨j + 1, _, by omega, rfl, Lib.hid HD.out, Lib.hid (by rw [HQ.out]; exact HW4.out)⟩
      case measure => show (r.extract 64 r.size).size < r.size; simp; omega
    · have z : r.toList.isEmpty = true := by
        rw [ByteArray.toList_eq]
        cases hl : r.data.toList with
        | nil => rfl
        | cons x y =>
          have h1 : r.data.toList.length = r.size := by simp
          rw [hl, List.length_cons] at h1
          omega
      -- TAIL
      obtain rfl : j = n := by omega
      obtain ⟨⟨a, b, c, d⟩, hq⟩ : ∃ q, blocksN p j = q := ⟨_, rfl⟩
      have hok := blocksN_ok p j
      rw [hq] at HW hok HS
      obtain ⟨ha, hb, hc, hd⟩ := hok
      change a < 4294967296 at ha
      change b < 4294967296 at hb
      change c < 4294967296 at hc
      change d < 4294967296 at hd
      clear hq hrs
      obtain ⟨i0, hi, hz0, hz1, hz2⟩ := info_parts info5
      go_wp2_with (at_make; refine wpList_make_own _ rfl (.const (.int .i64 0)) (.const (.int .i64 16)) 30 rfl wr.heap.size 5 i0 (.int .u8 0) 1 Tryd.underlying30 hi hz0 hz1 .i64 .i64 _ 16 rfl rfl rfl ?h3 ?h4 (Nat.le_refl _) ?_)
      case h3 => rw [hz2]; omega
      case h4 => unfold maxLen; omega
      intro w1 hown hgrow
      have hb1 : Below wr.heap.size wr w1 := Below.grown (Below.refl _ _) hgrow (Nat.le_refl _) (by simp)
      have hgr : w.heap.size ≤ wr.heap.size := HW.out.2.2.size
      obtain ⟨h0, h1, h2, h3⟩ := (HW.out.1.keep hb1).1.all4
      have HO := Lib.hid (And.intro hown (Bx.then_below HW.out.2.2 hb1))
      clear hown hgrow hb1 HW HF HM HP HPL HR
      generalize hgg : wr.heap.size = g at *
      clear hgg
      have x0 : ∀ w, (Instr.index 35 (.agg #[.int .u32 a, .int .u32 b, .int .u32 c, .int .u32 d]) (.int .i64 0)).run Tryd.prog w = .ok (.int .u32 a) w := fun _ => by kernel_rfl
      have x1 : ∀ w, (Instr.index 35 (.agg #[.int .u32 a, .int .u32 b, .int .u32 c, .int .u32 d]) (.int .i64 1)).run Tryd.prog w = .ok (.int .u32 b) w := fun _ => by kernel_rfl
      have x2 : ∀ w, (Instr.index 35 (.agg #[.int .u32 a, .int .u32 b, .int .u32 c, .int .u32 d]) (.int .i64 2)).run Tryd.prog w = .ok (.int .u32 c) w := fun _ => by kernel_rfl
      have x3 : ∀ w, (Instr.index 35 (.agg #[.int .u32 a, .int .u32 b, .int .u32 c, .int .u32 d]) (.int .i64 3)).run Tryd.prog w = .ok (.int .u32 d) w := fun _ => by kernel_rfl
      go_wp2
      clear h0 h1 h2 h3
      refine wp_loop_rounds 5 ?_; rw [rounds_succ]
      go_wp2
      refine wp_loop_rounds 5 ?_; rw [rounds_succ]
      go_wp2_with (at_builtin; refine wpList_append_fits _ rfl (.tmp 28) (.tmp 34) 30 rfl g 5 i0 1 Tryd.underlying30 hi hz1 g 0 16 _ rfl (HO.out.1.alloc _) ⟨_, 0, none⟩ 1 1 [_] rfl rfl (cell_one_new _ _ _) (by simp [Value.oneCell']) (by omega) ?_; intro w2 ho2 hg2)
      have HO2 := Lib.hid (And.intro ho2 (app_below HO.out.2 hg2 hgr))
      clear ho2 hg2 HO
      have HO := HO2
      clear HO2
      go_wp2
      rw [rounds_succ]
      go_wp2_with (at_builtin; refine wpList_append_fits _ rfl (.tmp 28) (.tmp 34) 30 rfl g 5 i0 1 Tryd.underlying30 hi hz1 g 1 16 _ rfl (HO.out.1.alloc _) ⟨_, 0, none⟩ 1 1 [_] rfl rfl (cell_one_new _ _ _) (by simp [Value.oneCell']) (by omega) ?_; intro w2 ho2 hg2)
      have HO2 := Lib.hid (And.intro ho2 (app_below HO.out.2 hg2 hgr))
      clear ho2 hg2 HO
      have HO := HO2
      clear HO2
      go_wp2
      rw [rounds_succ]
      go_wp2_with (at_builtin; refine wpList_append_fits _ rfl (.tmp 28) (.tmp 34) 30 rfl g 5 i0 1 Tryd.underlying30 hi hz1 g 2 16 _ rfl (HO.out.1.alloc _) ⟨_, 0, none⟩ 1 1 [_] rfl rfl (cell_one_new _ _ _) (by simp [Value.oneCell']) (by omega) ?_; intro w2 ho2 hg2)
      have HO2 := Lib.hid (And.intro ho2 (app_below HO.out.2 hg2 hgr))
      clear ho2 hg2 HO
      have HO := HO2
      clear HO2
      go_wp2
      rw [rounds_succ]
      go_wp2_with (at_builtin; refine wpList_append_fits _ rfl (.tmp 28) (.tmp 34) 30 rfl g 5 i0 1 Tryd.underlying30 hi hz1 g 3 16 _ rfl (HO.out.1.alloc _) ⟨_, 0, none⟩ 1 1 [_] rfl rfl (cell_one_new _ _ _) (by simp [Value.oneCell']) (by omega) ?_; intro w2 ho2 hg2)
      have HO2 := Lib.hid (And.intro ho2 (app_below HO.out.2 hg2 hgr))
      clear ho2 hg2 HO
      have HO := HO2
      clear HO2
      go_wp2
      rw [rounds_succ]
      go_wp2
      rw [rounds_succ]
      go_wp2
      refine wp_loop_rounds 5 ?_; rw [rounds_succ]
      go_wp2_with (at_builtin; refine wpList_append_fits _ rfl (.tmp 28) (.tmp 34) 30 rfl g 5 i0 1 Tryd.underlying30 hi hz1 g 4 16 _ rfl (HO.out.1.alloc _) ⟨_, 0, none⟩ 1 1 [_] rfl rfl (cell_one_new _ _ _) (by simp [Value.oneCell']) (by omega) ?_; intro w2 ho2 hg2)
      have HO2 := Lib.hid (And.intro ho2 (app_below HO.out.2 hg2 hgr))
      clear ho2 hg2 HO
      have HO := HO2
      clear HO2
      go_wp2
      rw [rounds_succ]
      go_wp2_with (at_builtin; refine wpList_append_fits _ rfl (.tmp 28) (.tmp 34) 30 rfl g 5 i0 1 Tryd.underlying30 hi hz1 g 5 16 _ rfl (HO.out.1.alloc _) ⟨_, 0, none⟩ 1 1 [_] rfl rfl (cell_one_new _ _ _) (by simp [Value.oneCell']) (by omega) ?_; intro w2 ho2 hg2)
      have HO2 := Lib.hid (And.intro ho2 (app_below HO.out.2 hg2 hgr))
      clear ho2 hg2 HO
      have HO := HO2
      clear HO2
      go_wp2
      rw [rounds_succ]
      go_wp2_with (at_builtin; refine wpList_append_fits _ rfl (.tmp 28) (.tmp 34) 30 rfl g 5 i0 1 Tryd.underlying30 hi hz1 g 6 16 _ rfl (HO.out.1.alloc _) ⟨_, 0, none⟩ 1 1 [_] rfl rfl (cell_one_new _ _ _) (by simp [Value.oneCell']) (by omega) ?_; intro w2 ho2 hg2)
      have HO2 := Lib.hid (And.intro ho2 (app_below HO.out.2 hg2 hgr))
      clear ho2 hg2 HO
      have HO := HO2
      clear HO2
      go_wp2
      rw [rounds_succ]
      go_wp2_with (at_builtin; refine wpList_append_fits _ rfl (.tmp 28) (.tmp 34) 30 rfl g 5 i0 1 Tryd.underlying30 hi hz1 g 7 16 _ rfl (HO.out.1.alloc _) ⟨_, 0, none⟩ 1 1 [_] rfl rfl (cell_one_new _ _ _) (by simp [Value.oneCell']) (by omega) ?_; intro w2 ho2 hg2)
      have HO2 := Lib.hid (And.intro ho2 (app_below HO.out.2 hg2 hgr))
      clear ho2 hg2 HO
      have HO := HO2
      clear HO2
      go_wp2
      rw [rounds_succ]
      go_wp2
      rw [rounds_succ]
      go_wp2
      refine wp_loop_rounds 5 ?_; rw [rounds_succ]
      go_wp2_with (at_builtin; refine wpList_append_fits _ rfl (.tmp 28) (.tmp 34) 30 rfl g 5 i0 1 Tryd.underlying30 hi hz1 g 8 16 _ rfl (HO.out.1.alloc _) ⟨_, 0, none⟩ 1 1 [_] rfl rfl (cell_one_new _ _ _) (by simp [Value.oneCell']) (by omega) ?_; intro w2 ho2 hg2)
      have HO2 := Lib.hid (And.intro ho2 (app_below HO.out.2 hg2 hgr))
      clear ho2 hg2 HO
      have HO := HO2
      clear HO2
      go_wp2
      rw [rounds_succ]
      go_wp2_with (at_builtin; refine wpList_append_fits _ rfl (.tmp 28) (.tmp 34) 30 rfl g 5 i0 1 Tryd.underlying30 hi hz1 g 9 16 _ rfl (HO.out.1.alloc _) ⟨_, 0, none⟩ 1 1 [_] rfl rfl (cell_one_new _ _ _) (by simp [Value.oneCell']) (by omega) ?_; intro w2 ho2 hg2)
      have HO2 := Lib.hid (And.intro ho2 (app_below HO.out.2 hg2 hgr))
      clear ho2 hg2 HO
      have HO := HO2
      clear HO2
      go_wp2
      rw [rounds_succ]
      go_wp2_with (at_builtin; refine wpList_append_fits _ rfl (.tmp 28) (.tmp 34) 30 rfl g 5 i0 1 Tryd.underlying30 hi hz1 g 10 16 _ rfl (HO.out.1.alloc _) ⟨_, 0, none⟩ 1 1 [_] rfl rfl (cell_one_new _ _ _) (by simp [Value.oneCell']) (by omega) ?_; intro w2 ho2 hg2)
      have HO2 := Lib.hid (And.intro ho2 (app_below HO.out.2 hg2 hgr))
      clear ho2 hg2 HO
      have HO := HO2
      clear HO2
      go_wp2
      rw [rounds_succ]
      go_wp2_with (at_builtin; refine wpList_append_fits _ rfl (.tmp 28) (.tmp 34) 30 rfl g 5 i0 1 Tryd.underlying30 hi hz1 g 11 16 _ rfl (HO.out.1.alloc _) ⟨_, 0, none⟩ 1 1 [_] rfl rfl (cell_one_new _ _ _) (by simp [Value.oneCell']) (by omega) ?_; intro w2 ho2 hg2)
      have HO2 := Lib.hid (And.intro ho2 (app_below HO.out.2 hg2 hgr))
      clear ho2 hg2 HO
      have HO := HO2
      clear HO2
      go_wp2
      rw [rounds_succ]
      go_wp2
      rw [rounds_succ]
      go_wp2
      refine wp_loop_rounds 5 ?_; rw [rounds_succ]
      go_wp2_with (at_builtin; refine wpList_append_fits _ rfl (.tmp 28) (.tmp 34) 30 rfl g 5 i0 1 Tryd.underlying30 hi hz1 g 12 16 _ rfl (HO.out.1.alloc _) ⟨_, 0, none⟩ 1 1 [_] rfl rfl (cell_one_new _ _ _) (by simp [Value.oneCell']) (by omega) ?_; intro w2 ho2 hg2)
      have HO2 := Lib.hid (And.intro ho2 (app_below HO.out.2 hg2 hgr))
      clear ho2 hg2 HO
      have HO := HO2
      clear HO2
      go_wp2
      rw [rounds_succ]
      go_wp2_with (at_builtin; refine wpList_append_fits _ rfl (.tmp 28) (.tmp 34) 30 rfl g 5 i0 1 Tryd.underlying30 hi hz1 g 13 16 _ rfl (HO.out.1.alloc _) ⟨_, 0, none⟩ 1 1 [_] rfl rfl (cell_one_new _ _ _) (by simp [Value.oneCell']) (by omega) ?_; intro w2 ho2 hg2)
      have HO2 := Lib.hid (And.intro ho2 (app_below HO.out.2 hg2 hgr))
      clear ho2 hg2 HO
      have HO := HO2
      clear HO2
      go_wp2
      rw [rounds_succ]
      go_wp2_with (at_builtin; refine wpList_append_fits _ rfl (.tmp 28) (.tmp 34) 30 rfl g 5 i0 1 Tryd.underlying30 hi hz1 g 14 16 _ rfl (HO.out.1.alloc _) ⟨_, 0, none⟩ 1 1 [_] rfl rfl (cell_one_new _ _ _) (by simp [Value.oneCell']) (by omega) ?_; intro w2 ho2 hg2)
      have HO2 := Lib.hid (And.intro ho2 (app_below HO.out.2 hg2 hgr))
      clear ho2 hg2 HO
      have HO := HO2
      clear HO2
      go_wp2
      rw [rounds_succ]
      go_wp2_with (at_builtin; refine wpList_append_fits _ rfl (.tmp 28) (.tmp 34) 30 rfl g 5 i0 1 Tryd.underlying30 hi hz1 g 15 16 _ rfl (HO.out.1.alloc _) ⟨_, 0, none⟩ 1 1 [_] rfl rfl (cell_one_new _ _ _) (by simp [Value.oneCell']) (by omega) ?_; intro w2 ho2 hg2)
      have HO2 := Lib.hid (And.intro ho2 (app_below HO.out.2 hg2 hgr))
      clear ho2 hg2 HO
      have HO := HO2
      clear HO2
      go_wp2
      rw [rounds_succ]
      go_wp2
      have hcv := conv_back (l := outL ⟨a, b, c, d⟩) (n := 16) (cap := 16) (by rw [out_cells a b c d ha hb hc hd]; exact HO.out.1)
      rw [rounds_succ]
      go_wp2
      go_ret
      exact ⟨ret_str (by rw [HS.out]), HO.out.2⟩
      -- END

end Dig
end Go.Proofs.YtanfmghfmmhglaaDoor
