/-
  What the document's Sum answers.
-/
import Derived.Test.YtanfmghfmmhglaaDoorDigH
import Derived.Test.YtanfmghfmmhglaaDoorDigI
import Derived.Test.YtanfmghfmmhglaaDoorDigF
namespace Go.Proofs.YtanfmghfmmhglaaDoor
open Go.RowKit
namespace Dig
open Fr Oct

/-- What the document's Sum finds in memory: the words so far. -/
def RSFound (w : World) (q : Q) (wr : World) : Prop := Bx.Own wr w.heap.size (qL q) ∧ Below w.heap.size w wr

theorem RSFound.keep {w wr w1 : World} {q : Q} (f : RSFound w q wr) (hb : Below wr.heap.size wr w1) : RSFound w q w1 := ⟨f.1.keep hb, Bx.then_below f.2 hb⟩

theorem RSFound.put {w wr : World} {q r : Q} (f : RSFound w q wr) : RSFound w r (wr.setCells w.heap.size 0 (qL r)) := ⟨f.1.put rfl, Bx.bel_cells f.2 (Nat.le_refl _)⟩

theorem cut_block (p : List UInt8) (j : Nat) : ((⟨p.toArray⟩ : ByteArray).extract (64 * j) (64 * j + 64)).data.toList = (p.drop (64 * j)).take 64 := by
  rw [ByteArray.data_extract, Array.toList_extract, List.extract_eq_take_drop]
  simp

theorem cells_new (W : World) (l : List Value) (t : TypeId) : ∀ (j : Nat) u, l[j]? = some u → (W.alloc (.cells l.toArray t)).cell? ((⟨W.heap.size, 0, none⟩ : Addr).add j) = some u := by
  intro j u h
  have := Bx.Blk.new W l t j u h
  cases j with
  | zero => simpa [Addr.add] using this
  | succ j => simpa [Addr.add] using this

theorem out_words (a b c d : Nat) (ha : a < 4294967296) (hb : b < 4294967296) (hc : c < 4294967296) (hd : d < 4294967296) : bv (outL ⟨a, b, c, d⟩) = [] ++ [Value.int IntKind.u8 ((a : Int) % 256), Value.int IntKind.u8 ((a : Int) / 256 % 256), Value.int IntKind.u8 ((a : Int) / 65536 % 256), Value.int IntKind.u8 ((a : Int) / 16777216)] ++ [Value.int IntKind.u8 ((b : Int) % 256), Value.int IntKind.u8 ((b : Int) / 256 % 256), Value.int IntKind.u8 ((b : Int) / 65536 % 256), Value.int IntKind.u8 ((b : Int) / 16777216)] ++ [Value.int IntKind.u8 ((c : Int) % 256), Value.int IntKind.u8 ((c : Int) / 256 % 256), Value.int IntKind.u8 ((c : Int) / 65536 % 256), Value.int IntKind.u8 ((c : Int) / 16777216)] ++ [Value.int IntKind.u8 ((d : Int) % 256), Value.int IntKind.u8 ((d : Int) / 256 % 256), Value.int IntKind.u8 ((d : Int) / 65536 % 256), Value.int IntKind.u8 ((d : Int) / 16777216)] := by
  unfold outL
  rw [bv_append, bv_append, bv_append, low_word a ha, low_word b hb, low_word c hc, low_word d hd]
  rfl

set_option maxRecDepth 20000 in
set_option maxHeartbeats 1000000 in
theorem rsum_any (s : ByteArray) (w : World) (hs : s.size ≤ 1048576) :
    Calls Tryd.prog 18 #[.string s] w fun e w' => e = .returned (.string ⟨(sumL s.data.toList).toArray⟩) ∧ Below w.heap.size w w' := by
  have HP := Lib.hid (fun w => rpad_any s w hs)
  obtain ⟨p, hp⟩ : ∃ p, padL s.data.toList = p := ⟨_, rfl⟩
  obtain ⟨n, hn⟩ : ∃ n, n = p.length / 64 := ⟨_, rfl⟩
  have hpl : p.length = 64 * n := by
    have := padL_length s.data.toList
    rw [hp] at this
    omega
  have hpb : p.length ≤ 1048700 := by
    have := padL_length s.data.toList
    rw [hp] at this
    have h2 : s.data.toList.length = s.size := by simp
    omega
  have HS : Hid (sumL s.data.toList = outL (blocksN p n)) := Lib.hid (by unfold sumL; rw [hp, hn])
  rw [hp] at HP
  clear hp hn
  have HC := Lib.hid (fun j => cut_block p j)
  have hpz : (⟨p.toArray⟩ : ByteArray).size = 64 * n := by rw [← hpl]; rfl
  have hpz2 : 64 * n ≤ 1048700 := by omega
  clear hpl hs hpb
  generalize (⟨p.toArray⟩ : ByteArray) = P at *
  have HZ := Lib.hid hpz
  clear hpz
  go_enter Tryd.func18, Tryd.ntmps18
  go_wp2_with fail
  refine (HP.out _).mono ?_
  rintro e w1 ⟨rfl, hb1⟩
  have HF : Hid (RSFound w initQ w1) := Lib.hid ⟨(Bx.Own.new w (qL initQ) 35).keep hb1, Bx.then_below (Bx.box_below _ _) hb1⟩
  clear hb1
  go_wp2
  go_loopw [5] (fun v wr => ∃ (j m : Nat), j ≤ n ∧ m = 64 * j ∧ v = .int .i64 m ∧ Hid (RSFound w (blocksN p j) wr)) (fun v _ => 64 * n + 1 - (intOf v).toNat)
  case atStart => exact ⟨0, 0, Nat.zero_le _, rfl, rfl, HF⟩
  case round =>
    obtain ⟨j, m, hj, hm, rfl, HW⟩ := hrel
    by_cases hlt : j < n
    · have z1 : (m : Int) < (P.size : Int) := by have := HZ.out; omega
      have z1' : m < P.size := by have := HZ.out; omega
      have z2 : m + 64 ≤ P.size := by have := HZ.out; omega
      have z3 : (m : Int) + 64 ≤ (P.size : Int) := by have := HZ.out; omega
      have z4 : ((m : Int) + 64).toNat = m + 64 := by omega
      have z5 : IntKind.i64.wrap ((m : Int) + 64) = (m : Int) + 64 := IntWalk.i64_in _ (by omega)
      have z6 : (0 : Int) ≤ (m : Int) + 64 := by omega
      have z8 : m ≤ 1048700 := by omega
      have z7 : (m : Int) ≤ (m : Int) + 64 := by omega
      obtain ⟨⟨a, b, c, d⟩, hq⟩ : ∃ q, blocksN p j = q := ⟨_, rfl⟩
      have hok := blocksN_ok p j
      rw [hq] at HW hok
      have HB := Lib.hid (fun w => rblock_any ⟨a, b, c, d⟩ hok (P.extract m (m + 64)) w)
      rw [hm, HC.out j] at HB
      have HQ : Hid (blocksN p (j + 1) = blockN ⟨a, b, c, d⟩ ((p.drop (64 * j)).take 64)) := Lib.hid (by rw [blocksN, hq])
      generalize blockN ⟨a, b, c, d⟩ ((p.drop (64 * j)).take 64) = q2 at *
      rw [← hm] at HB
      have HJ := Lib.hid hm
      clear hq hok hm
      obtain ⟨h0, h1, h2, h3⟩ := HW.out.1.1.all4
      go_wp2
      go_still_tail 6, (by kernel_rfl)
      change wpList _ _ _ _ _ wr.drew
      have HW2 : Hid (RSFound w ⟨a, b, c, d⟩ wr.drew) := Lib.hid ⟨HW.out.1, HW.out.2.drew⟩
      clear HW h0 h1 h2 h3 z5
      generalize wr.drew = w2 at *
      go_wp2_with fail
      refine (HB.out _).mono ?_
      rintro e w3 ⟨rfl, hb3⟩
      have HW3 := Lib.hid (HW2.out.keep hb3)
      have HW4 := Lib.hid (HW3.out.put (r := q2))
      clear hb3 HW2
      go_wp2_with (refine Bx.step_store (op := ⟨none, _, _, _, _, _⟩) rfl 35 (.tmp 3) (.tmp 24) rfl w.heap.size (qL ⟨a, b, c, d⟩) (qL q2) rfl rfl rfl info_q (by simp [Value.oneCell']) HW3.out.1 ?_)
      go_roundw
      case rel => exact ⟨j + 1, m + 64, by omega, by have := HJ.out; omega, by go_num, Lib.hid (by rw [HQ.out]; exact HW4.out)⟩
      case measure => simp [intOf]; have := HJ.out; omega
    · have z1 : decide (m < P.size) = false := by have := HZ.out; simp; omega
      obtain rfl : j = n := by omega
      obtain ⟨⟨a, b, c, d⟩, hq⟩ : ∃ q, blocksN p j = q := ⟨_, rfl⟩
      have hok := blocksN_ok p j
      rw [hq] at HW hok HS
      obtain ⟨ha, hb, hc, hd⟩ := hok
      change a < 4294967296 at ha
      change b < 4294967296 at hb
      change c < 4294967296 at hc
      change d < 4294967296 at hd
      clear hq hm
      obtain ⟨i0, hi, hz0, hz1, hz2⟩ := info_parts info5
      go_wp2_with (at_make; refine wpList_make_own _ rfl (.const (.int .i64 0)) (.const (.int .i64 16)) 30 rfl wr.heap.size 5 i0 (.int .u8 0) 1 Tryd.underlying30 hi hz0 hz1 .i64 .i64 _ 16 rfl rfl rfl ?h3 ?h4 (Nat.le_refl _) ?_)
      case h3 => rw [hz2]; omega
      case h4 => unfold maxLen; omega
      intro w1 hown hgrow
      have hb1 : Below wr.heap.size wr w1 := Below.grown (Below.refl _ _) hgrow (Nat.le_refl _) (by simp)
      have hgr : w.heap.size ≤ wr.heap.size := HW.out.2.size
      obtain ⟨h0, h1, h2, h3⟩ := (HW.out.1.keep hb1).1.all4
      have HO := Lib.hid (And.intro hown (Bx.then_below HW.out.2 hb1))
      clear hown hgrow hb1 HW HF HP HC
      generalize hgg : wr.heap.size = g at *
      clear hgg
      have x0 : ∀ w, (Instr.index 35 (.agg #[.int .u32 a, .int .u32 b, .int .u32 c, .int .u32 d]) (.int .i64 0)).run Tryd.prog w = .ok (.int .u32 a) w := fun _ => by kernel_rfl
      have x1 : ∀ w, (Instr.index 35 (.agg #[.int .u32 a, .int .u32 b, .int .u32 c, .int .u32 d]) (.int .i64 1)).run Tryd.prog w = .ok (.int .u32 b) w := fun _ => by kernel_rfl
      have x2 : ∀ w, (Instr.index 35 (.agg #[.int .u32 a, .int .u32 b, .int .u32 c, .int .u32 d]) (.int .i64 2)).run Tryd.prog w = .ok (.int .u32 c) w := fun _ => by kernel_rfl
      have x3 : ∀ w, (Instr.index 35 (.agg #[.int .u32 a, .int .u32 b, .int .u32 c, .int .u32 d]) (.int .i64 3)).run Tryd.prog w = .ok (.int .u32 d) w := fun _ => by kernel_rfl
      go_wp2
      clear h0 h1 h2 h3
      refine wp_loop_rounds 5 ?_; rw [rounds_succ]
      go_wp2_with (at_builtin; refine wpList_append_fits _ rfl (.tmp 30) (.tmp 42) 30 rfl g 5 i0 1 Tryd.underlying30 hi hz1 g 0 16 _ rfl (HO.out.1.alloc _) ⟨_, 0, none⟩ 4 4 [_, _, _, _] rfl rfl (cells_new _ _ _) (by simp [Value.oneCell']) (by omega) ?_; intro w2 ho2 hg2)
      have HO2 := Lib.hid (And.intro ho2 (app_below HO.out.2 hg2 hgr))
      clear ho2 hg2 HO
      have HO := HO2
      clear HO2
      go_wp2
      rw [rounds_succ]
      go_wp2_with (at_builtin; refine wpList_append_fits _ rfl (.tmp 30) (.tmp 42) 30 rfl g 5 i0 1 Tryd.underlying30 hi hz1 g 4 16 _ rfl (HO.out.1.alloc _) ⟨_, 0, none⟩ 4 4 [_, _, _, _] rfl rfl (cells_new _ _ _) (by simp [Value.oneCell']) (by omega) ?_; intro w2 ho2 hg2)
      have HO2 := Lib.hid (And.intro ho2 (app_below HO.out.2 hg2 hgr))
      clear ho2 hg2 HO
      have HO := HO2
      clear HO2
      go_wp2
      rw [rounds_succ]
      go_wp2_with (at_builtin; refine wpList_append_fits _ rfl (.tmp 30) (.tmp 42) 30 rfl g 5 i0 1 Tryd.underlying30 hi hz1 g 8 16 _ rfl (HO.out.1.alloc _) ⟨_, 0, none⟩ 4 4 [_, _, _, _] rfl rfl (cells_new _ _ _) (by simp [Value.oneCell']) (by omega) ?_; intro w2 ho2 hg2)
      have HO2 := Lib.hid (And.intro ho2 (app_below HO.out.2 hg2 hgr))
      clear ho2 hg2 HO
      have HO := HO2
      clear HO2
      go_wp2
      rw [rounds_succ]
      go_wp2_with (at_builtin; refine wpList_append_fits _ rfl (.tmp 30) (.tmp 42) 30 rfl g 5 i0 1 Tryd.underlying30 hi hz1 g 12 16 _ rfl (HO.out.1.alloc _) ⟨_, 0, none⟩ 4 4 [_, _, _, _] rfl rfl (cells_new _ _ _) (by simp [Value.oneCell']) (by omega) ?_; intro w2 ho2 hg2)
      have HO2 := Lib.hid (And.intro ho2 (app_below HO.out.2 hg2 hgr))
      clear ho2 hg2 HO
      have HO := HO2
      clear HO2
      go_wp2
      have hcv := conv_back (l := outL ⟨a, b, c, d⟩) (n := 16) (cap := 16) (by rw [out_words a b c d ha hb hc hd]; exact HO.out.1)
      rw [rounds_succ]
      go_wp2
      go_ret
      exact ⟨ret_str (by rw [HS.out]), HO.out.2⟩

end Dig
end Go.Proofs.YtanfmghfmmhglaaDoor
