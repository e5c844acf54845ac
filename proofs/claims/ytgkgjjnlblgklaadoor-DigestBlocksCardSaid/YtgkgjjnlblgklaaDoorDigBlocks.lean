/-
  The statement DigestBlocks (a tied card): for every text the law DigestBlocks returns true, and its argument reads afterwards as it read before.
-/
import Derived.Test.YtgkgjjnlblgklaaDoorDigK
import Derived.Test.YtgkgjjnlblgklaaDoorDigF
import Derived.Test.YtgkgjjnlblgklaaDoorDigHome
import Derived.Test.YtgkgjjnlblgklaaDoorCards
import Derived.Test.YtgkgjjnlblgklaaDoorTie
import Derived.SevenTiedAt
import Derived.StillTailTactics
namespace Go.Proofs.YtgkgjjnlblgklaaDoor
open Go.RowKit
namespace Dig
open Oct Fr

theorem SFound.more {w wr : World} {q : Q} (f : SFound w q wr) (o : Obj) : SFound w q (wr.alloc o) := f.keep (Bx.box_below _ _)

theorem want_eq (a b c d : Nat) : (⟨#[]⟩ : ByteArray) ++ (⟨#[UInt8.ofNat (a / 1)]⟩ : ByteArray) ++ (⟨#[UInt8.ofNat (a / 256)]⟩ : ByteArray) ++ (⟨#[UInt8.ofNat (a / 65536)]⟩ : ByteArray) ++ (⟨#[UInt8.ofNat (a / 16777216)]⟩ : ByteArray) ++ (⟨#[UInt8.ofNat (b / 1)]⟩ : ByteArray) ++ (⟨#[UInt8.ofNat (b / 256)]⟩ : ByteArray) ++ (⟨#[UInt8.ofNat (b / 65536)]⟩ : ByteArray) ++ (⟨#[UInt8.ofNat (b / 16777216)]⟩ : ByteArray) ++ (⟨#[UInt8.ofNat (c / 1)]⟩ : ByteArray) ++ (⟨#[UInt8.ofNat (c / 256)]⟩ : ByteArray) ++ (⟨#[UInt8.ofNat (c / 65536)]⟩ : ByteArray) ++ (⟨#[UInt8.ofNat (c / 16777216)]⟩ : ByteArray) ++ (⟨#[UInt8.ofNat (d / 1)]⟩ : ByteArray) ++ (⟨#[UInt8.ofNat (d / 256)]⟩ : ByteArray) ++ (⟨#[UInt8.ofNat (d / 65536)]⟩ : ByteArray) ++ (⟨#[UInt8.ofNat (d / 16777216)]⟩ : ByteArray) = ⟨(outL ⟨a, b, c, d⟩).toArray⟩ := by
  apply ByteArray.ext
  simp only [outL, lowL, Nat.div_div_eq_div_mul]
  simp

theorem sumL_length (l : List UInt8) : (sumL l).length = 16 := by
  unfold sumL outL
  simp [lowL_length]

set_option maxHeartbeats 2000000 in
theorem walk_blocks (w : World) (s : ByteArray) (ws : s.size ≤ maxLen) (hm : Home w) :
    Calls Tryd.prog 6 #[.string s] w fun e w' => e = .returned (.bool true) ∧ Below w.heap.size w w' := by
  unfold maxLen at ws
  by_cases hs : 1000 < s.size
  · have hs' : decide (1000 < (s.size : Int)) = true := by simp; omega
    have HM := Lib.hid hm
    clear hm
    go_enter Tryd.func6, Tryd.ntmps6
    go_wp2_with fail
    refine (dawake_any _ HM.out).mono ?_; rintro e w1 ⟨rfl, hb1⟩
    go_wp2_with fail
    go_ret
    exact ⟨rfl, hb1⟩
  have hs' : decide (1000 < (s.size : Int)) = false := by simp; omega
  have HP := Lib.hid (fun w => dpad_any s w (by omega))
  have HSum := Lib.hid (fun w hm => sum_any s w (by omega) hm)
  have hD : (⟨(sumL s.data.toList).toArray⟩ : ByteArray).size = 16 := by
    show (sumL s.data.toList).toArray.size = 16
    simp [sumL_length]
  obtain ⟨p, hp⟩ : ∃ p, padL s.data.toList = p := ⟨_, rfl⟩
  obtain ⟨n, hn⟩ : ∃ n, n = p.length / 64 := ⟨_, rfl⟩
  have hpl : p.length = 64 * n := by
    have := padL_length s.data.toList
    rw [hp] at this
    omega
  have hpb : p.length ≤ 1048700 := by
    have := padL_length s.data.toList
    rw [hp] at this
    have h2 : s.data.toList.length = s.size := by simp
    omega
  have HS : Hid ((⟨(outL (blocksN p n)).toArray⟩ : ByteArray) = ⟨(sumL s.data.toList).toArray⟩) := Lib.hid (by unfold sumL; rw [hp, hn])
  rw [hp] at HP
  generalize (⟨(sumL s.data.toList).toArray⟩ : ByteArray) = D at *
  clear hp hn
  have hg : 0 < w.heap.size ∧ 1 < w.heap.size := hm.2.2
  have HG := Lib.hid hg
  have HM := Lib.hid hm
  have HPL := Lib.hid hpl
  have HD := Lib.hid hD
  clear hm hpl hs hg hD ws
  go_enter Tryd.func6, Tryd.ntmps6
  go_wp2_with fail
  refine (HP.out _).mono ?_
  rintro e w1 ⟨rfl, hb1⟩
  have HF : Hid (SFound w initQ w1) := Lib.hid ⟨(Bx.Own.new w (qL initQ) 23).keep hb1, HM.out.below (Bx.then_below (Bx.box_below _ _) hb1), Bx.then_below (Bx.box_below _ _) hb1⟩
  clear hb1
  go_wp2
  go_loopw [4] (fun v wr => ∃ (j : Nat) (r : ByteArray), j ≤ n ∧ v = .string r ∧ Hid (r.data.toList = p.drop (64 * j)) ∧ Hid (SFound w (blocksN p j) wr)) (fun v _ => match v with | .string r => r.size | _ => 0)
  case atStart => exact ⟨0, _, Nat.zero_le _, rfl, Lib.hid (by simp), HF⟩
  case round =>
    obtain ⟨j, r, hj, rfl, HR, HW⟩ := hrel
    have hrs : r.size = 64 * (n - j) := by
      have := congrArg List.length HR.out
      have h2 := HPL.out
      simp at this
      omega
    by_cases hlt : j < n
    · have h64 : 64 ≤ r.size := by omega
      have h64i : (64 : Int) ≤ (r.size : Int) := by omega
      have HZ := Lib.hid hrs
      clear hrs
      obtain ⟨⟨a, b, c, d⟩, hq⟩ : ∃ q, blocksN p j = q := ⟨_, rfl⟩
      have hok := blocksN_ok p j
      rw [hq] at HW hok
      have HB := Lib.hid (fun w hm => block_any ⟨a, b, c, d⟩ hok (r.extract 0 64) w hm)
      rw [drop_take p r j HR.out] at HB
      have HQ : Hid (blocksN p (j + 1) = blockN ⟨a, b, c, d⟩ ((p.drop (64 * j)).take 64)) := Lib.hid (by rw [blocksN, hq])
      generalize blockN ⟨a, b, c, d⟩ ((p.drop (64 * j)).take 64) = q2 at *
      have HDr := Lib.hid (drop_next p r j HR.out)
      clear hq hok
      obtain ⟨h0, h1, h2, h3⟩ := HW.out.1.1.all4
      go_wp2
      go_still_tail 3, (by kernel_rfl)
      change wpList _ _ _ _ _ wr.drew
      have HW2 : Hid (SFound w ⟨a, b, c, d⟩ wr.drew) := Lib.hid ⟨HW.out.1, HW.out.2.1, HW.out.2.2.drew⟩
      clear HW h0 h1 h2 h3
      generalize wr.drew = w2 at *
      go_wp2_with fail
      refine (HB.out _ HW2.out.2.1).mono ?_
      rintro e w3 ⟨rfl, hb3⟩
      have HW3 := Lib.hid (HW2.out.keep hb3)
      have HW4 := Lib.hid (HW3.out.put (r := q2) HG.out)
      clear hb3 HW2
      go_wp2_with (refine Bx.step_store (op := ⟨none, _, _, _, _, _⟩) rfl 23 (.tmp 3) (.tmp 23) rfl w.heap.size (qL ⟨a, b, c, d⟩) (qL q2) rfl rfl rfl info_q (by simp [Value.oneCell']) HW3.out.1 ?_)
      go_roundw
      case rel => exact ⟨j + 1, _, by omega, rfl, Lib.hid HDr.out, Lib.hid (by rw [HQ.out]; exact HW4.out)⟩
      case measure => show (r.extract 64 r.size).size < r.size; simp; omega
    · have h0r : r.size = 0 := by omega
      have q0 : ¬ (64 : Int) ≤ (r.size : Int) := by omega
      have z0 : r.toList = [] := by
        rw [ByteArray.toList_eq]
        have h1 : r.data.toList.length = r.size := by simp
        exact List.eq_nil_of_length_eq_zero (by omega)
      obtain rfl : j = n := by omega
      obtain ⟨⟨a, b, c, d⟩, hq⟩ : ∃ q, blocksN p j = q := ⟨_, rfl⟩
      have hok := blocksN_ok p j
      rw [hq] at HW hok HS
      obtain ⟨ha, hb, hc, hd⟩ := hok
      change a < 4294967296 at ha
      change b < 4294967296 at hb
      change c < 4294967296 at hc
      change d < 4294967296 at hd
      obtain ⟨h0, h1, h2, h3⟩ := HW.out.1.1.all4
      have HE := (want_eq a b c d).trans HS.out
      clear hq hrs HF HS HP HPL HR hpb hj hlt h0r
      have HF := HW
      clear HW
      obtain ⟨b00, hb00⟩ : ∃ y : UInt8, UInt8.ofNat (a / 1) = y := ⟨_, rfl⟩
      obtain ⟨b01, hb01⟩ : ∃ y : UInt8, UInt8.ofNat (a / 256) = y := ⟨_, rfl⟩
      obtain ⟨b02, hb02⟩ : ∃ y : UInt8, UInt8.ofNat (a / 65536) = y := ⟨_, rfl⟩
      obtain ⟨b03, hb03⟩ : ∃ y : UInt8, UInt8.ofNat (a / 16777216) = y := ⟨_, rfl⟩
      obtain ⟨b10, hb10⟩ : ∃ y : UInt8, UInt8.ofNat (b / 1) = y := ⟨_, rfl⟩
      obtain ⟨b11, hb11⟩ : ∃ y : UInt8, UInt8.ofNat (b / 256) = y := ⟨_, rfl⟩
      obtain ⟨b12, hb12⟩ : ∃ y : UInt8, UInt8.ofNat (b / 65536) = y := ⟨_, rfl⟩
      obtain ⟨b13, hb13⟩ : ∃ y : UInt8, UInt8.ofNat (b / 16777216) = y := ⟨_, rfl⟩
      obtain ⟨b20, hb20⟩ : ∃ y : UInt8, UInt8.ofNat (c / 1) = y := ⟨_, rfl⟩
      obtain ⟨b21, hb21⟩ : ∃ y : UInt8, UInt8.ofNat (c / 256) = y := ⟨_, rfl⟩
      obtain ⟨b22, hb22⟩ : ∃ y : UInt8, UInt8.ofNat (c / 65536) = y := ⟨_, rfl⟩
      obtain ⟨b23, hb23⟩ : ∃ y : UInt8, UInt8.ofNat (c / 16777216) = y := ⟨_, rfl⟩
      obtain ⟨b30, hb30⟩ : ∃ y : UInt8, UInt8.ofNat (d / 1) = y := ⟨_, rfl⟩
      obtain ⟨b31, hb31⟩ : ∃ y : UInt8, UInt8.ofNat (d / 256) = y := ⟨_, rfl⟩
      obtain ⟨b32, hb32⟩ : ∃ y : UInt8, UInt8.ofNat (d / 65536) = y := ⟨_, rfl⟩
      obtain ⟨b33, hb33⟩ : ∃ y : UInt8, UInt8.ofNat (d / 16777216) = y := ⟨_, rfl⟩
      have cv00 : Conv ((a : Int) % 256) b00 := by rw [← hb00]; exact conv_byte _ _ (by omega)
      have cv01 : Conv ((a : Int) / 256 % 256) b01 := by rw [← hb01]; exact conv_byte _ _ (by omega)
      have cv02 : Conv ((a : Int) / 65536 % 256) b02 := by rw [← hb02]; exact conv_byte _ _ (by omega)
      have cv03 : Conv ((a : Int) / 16777216) b03 := by rw [← hb03]; exact conv_byte _ _ (by omega)
      have cv10 : Conv ((b : Int) % 256) b10 := by rw [← hb10]; exact conv_byte _ _ (by omega)
      have cv11 : Conv ((b : Int) / 256 % 256) b11 := by rw [← hb11]; exact conv_byte _ _ (by omega)
      have cv12 : Conv ((b : Int) / 65536 % 256) b12 := by rw [← hb12]; exact conv_byte _ _ (by omega)
      have cv13 : Conv ((b : Int) / 16777216) b13 := by rw [← hb13]; exact conv_byte _ _ (by omega)
      have cv20 : Conv ((c : Int) % 256) b20 := by rw [← hb20]; exact conv_byte _ _ (by omega)
      have cv21 : Conv ((c : Int) / 256 % 256) b21 := by rw [← hb21]; exact conv_byte _ _ (by omega)
      have cv22 : Conv ((c : Int) / 65536 % 256) b22 := by rw [← hb22]; exact conv_byte _ _ (by omega)
      have cv23 : Conv ((c : Int) / 16777216) b23 := by rw [← hb23]; exact conv_byte _ _ (by omega)
      have cv30 : Conv ((d : Int) % 256) b30 := by rw [← hb30]; exact conv_byte _ _ (by omega)
      have cv31 : Conv ((d : Int) / 256 % 256) b31 := by rw [← hb31]; exact conv_byte _ _ (by omega)
      have cv32 : Conv ((d : Int) / 65536 % 256) b32 := by rw [← hb32]; exact conv_byte _ _ (by omega)
      have cv33 : Conv ((d : Int) / 16777216) b33 := by rw [← hb33]; exact conv_byte _ _ (by omega)
      rw [hb00, hb01, hb02, hb03, hb10, hb11, hb12, hb13, hb20, hb21, hb22, hb23, hb30, hb31, hb32, hb33] at HE
      clear hb00 hb01 hb02 hb03 hb10 hb11 hb12 hb13 hb20 hb21 hb22 hb23 hb30 hb31 hb32 hb33
      have EE := Lib.hid HE
      clear HE
      unfold Conv at cv00 cv01 cv02 cv03 cv10 cv11 cv12 cv13 cv20 cv21 cv22 cv23 cv30 cv31 cv32 cv33
      have x0 : ∀ w, (Instr.index 23 (.agg #[.int .u32 a, .int .u32 b, .int .u32 c, .int .u32 d]) (.int .i64 0)).run Tryd.prog w = .ok (.int .u32 a) w := fun _ => by kernel_rfl
      have x1 : ∀ w, (Instr.index 23 (.agg #[.int .u32 a, .int .u32 b, .int .u32 c, .int .u32 d]) (.int .i64 1)).run Tryd.prog w = .ok (.int .u32 b) w := fun _ => by kernel_rfl
      have x2 : ∀ w, (Instr.index 23 (.agg #[.int .u32 a, .int .u32 b, .int .u32 c, .int .u32 d]) (.int .i64 2)).run Tryd.prog w = .ok (.int .u32 c) w := fun _ => by kernel_rfl
      have x3 : ∀ w, (Instr.index 23 (.agg #[.int .u32 a, .int .u32 b, .int .u32 c, .int .u32 d]) (.int .i64 3)).run Tryd.prog w = .ok (.int .u32 d) w := fun _ => by kernel_rfl
      go_wp2
      refine wp_loop_rounds 5 ?_; rw [rounds_succ]
      go_wp2
      refine wp_loop_rounds 5 ?_; rw [rounds_succ]
      go_wp2
      rw [rounds_succ]
      go_wp2
      rw [rounds_succ]
      go_wp2
      rw [rounds_succ]
      go_wp2
      rw [rounds_succ]
      go_wp2
      rw [rounds_succ]
      go_wp2
      refine wp_loop_rounds 5 ?_; rw [rounds_succ]
      go_wp2
      rw [rounds_succ]
      go_wp2
      rw [rounds_succ]
      go_wp2
      rw [rounds_succ]
      go_wp2
      rw [rounds_succ]
      go_wp2
      rw [rounds_succ]
      go_wp2
      refine wp_loop_rounds 5 ?_; rw [rounds_succ]
      go_wp2
      rw [rounds_succ]
      go_wp2
      rw [rounds_succ]
      go_wp2
      rw [rounds_succ]
      go_wp2
      rw [rounds_succ]
      go_wp2
      rw [rounds_succ]
      go_wp2
      refine wp_loop_rounds 5 ?_; rw [rounds_succ]
      go_wp2
      rw [rounds_succ]
      go_wp2
      rw [rounds_succ]
      go_wp2
      rw [rounds_succ]
      go_wp2
      rw [rounds_succ]
      go_wp2
      rw [rounds_succ]
      go_wp2_with fail
      clear cv00 cv01 cv02 cv03 cv10 cv11 cv12 cv13 cv20 cv21 cv22 cv23 cv30 cv31 cv32 cv33 x0 x1 x2 x3
      refine (HSum.out _ (by exact ((((((((((((((((HF.out.more _).more _).more _).more _).more _).more _).more _).more _).more _).more _).more _).more _).more _).more _).more _).more _) : SFound w ⟨a, b, c, d⟩ _).2.1).mono ?_
      rintro e w5 ⟨rfl, hb5⟩
      rw [EE.out]
      have HF10 : Hid (SFound w ⟨a, b, c, d⟩ w5) := Lib.hid (SFound.keep (by exact ((((((((((((((((HF.out.more _).more _).more _).more _).more _).more _).more _).more _).more _).more _).more _).more _).more _).more _).more _).more _)) hb5)
      have q5 : ((D.size : Int) == 16) = true := by have := HD.out; simp; omega
      clear hb5 HF
      go_wp2_with fail
      refine (dawake_any _ HF10.out.2.1).mono ?_
      rintro e w6 ⟨rfl, hb6⟩
      go_wp2_with fail
      go_ret
      exact ⟨rfl, Bx.then_below HF10.out.2.2 hb6⟩

end Dig
namespace LawDigestBlocks
open Go.ChangeShapes Go.WideShapes Go.ChangeAt Go.RowKit
open Go.ChangeMaps (open_string shut_string)

theorem own : ownKnob Tryd.prog.godebug = none := by kernel_rfl
theorem laidOut : laidOutB Tryd.prog = true := by kernel_rfl
theorem plain : (Rows.digestBlocksRow.laid.all fun x => x.2.handleName?.isNone) = true := by kernel_rfl

set_option maxRecDepth 100000 in
theorem lifted (os : Os) (started : os.Started) (H : Type) (enc : TypeId × Value → H) :
    ReturnsInHanded {} Tryd.checked os 6 .any (fun w args => (Rows.digestBlocksSpec.pre enc Tryd.prog Tryd.f6 Rows.digestBlocksRow.domain false w args ∧ laidMetH Tryd.prog Rows.digestBlocksRow.laid w) ∧ sizedMet enc Tryd.prog Tryd.f6 (OpenSpec.ofChange Rows.digestBlocksSpec) false w args)
      (Rows.digestBlocksSpec.post enc Tryd.prog Tryd.f6 false true false false) := by
  refine Fr.law_lift_laid (C := Tryd.checked) (laid := Rows.digestBlocksRow.laid) (tb := 4) own started (by kernel_rfl) Tryd.func6
    (ChangeSpec.witness_shaped (enc := enc) (C := Tryd.checked) (os := os) (X := fun w _ => laidMetH Tryd.prog Rows.digestBlocksRow.laid w) false (World.laidAll Tryd.prog os Rows.digestBlocksRow.laid) #[.string ByteArray.empty] 8 (World.laidAll_os _ _ _)
      (World.shaped_of_ZipB (by kernel_rfl) (by kernel_rfl)) (by kernel_rfl) (by kernel_rfl) (by kernel_rfl)
      (by rw [MakeChecks.laidMetH_plain _ _ _ plain]; exact laidMet_laidAll _ (by kernel_rfl) (by kernel_rfl)))
    laidOut (by rw [Tryd.params6]; decide +kernel) rfl Tryd.underlying4 rfl ?_ ?_
  · intro ds hl
    match ds, hl with
    | [d0], _ => rfl
  · intro W base args ds p hsh hL hval hA
    rw [Tryd.params6] at hA hval
    obtain ⟨v0, vs0, d0, ds0, p0, q0, hargs, rfl, rfl, h0, r0⟩ := trodAll_cons hA
    obtain ⟨rfl, rfl, rfl⟩ := trodAll_nil r0
    obtain rfl : args = #[v0] := by cases args; simp_all
    obtain ⟨a0, rfl, rfl, rfl, w0⟩ := open_string Tryd.underlying9 (hval 0 9 v0 rfl rfl) h0
    exact Dig.walk_blocks W a0 w0 (Dig.home_of hsh hL plain (by simp [Rows.digestBlocksRow]))

theorem over : Rows.digestBlocksRow.holds Tryd.pinned (OpenSpec.ofChange Rows.digestBlocksSpec) :=
  OpenClaim.holds_of_wide 6 Tryd.f6 rfl rfl rfl rfl rfl rfl rfl ⟨rfl, rfl, rfl, rfl, rfl⟩ rfl rfl rfl rfl rfl (by kernel_rfl) Tryd.func6 (by kernel_rfl)
    (of_decide_eq_true (by kernel_rfl)) (by unfold Func.isWrapper; first | (rw [if_pos (by decide +kernel)]; kernel_rfl) | (rw [if_neg (by decide +kernel)]; exact ⟨rfl, rfl⟩))
    (fun os started H enc _ => lifted os started H enc)
end LawDigestBlocks

/-- The statement DigestBlocks (the tied card). -/
theorem digestBlocks_holds : Rows.DigestBlocksCardSaid :=
  Claim7.holds_tied_plain_at .later [] _ true _ _ LawDigestBlocks.over (fun _ h => by cases h) (by kernel_rfl) (fun _ h => by cases h) digestBlocks_row_tie rfl ⟨rfl, rfl⟩ (by kernel_rfl) rfl
    (fun f fn hf hfn => by
      obtain rfl : f = 6 := Option.some.inj ((show Tryd.prog.funcNamed Rows.digestBlocksRow.func = some 6 by kernel_rfl).symm.trans hf) |>.symm
      obtain rfl : fn = Tryd.f6 := (Option.some.inj (Tryd.func6.symm.trans hfn)).symm
      exact ⟨by kernel_rfl, fun j t ht => by
        rw [Tryd.params6] at ht
        have hm : t ∈ [9] := by have := Array.mem_of_getElem? ht; simp at this; simp [this]
        have hall : ([9].all fun u => !Tryd.prog.wantsStandIn u) = true := by kernel_rfl
        exact (show Tryd.prog.wantsStandIn t = false by simpa using List.all_eq_true.1 hall t hm)⟩)
    (by kernel_rfl)

end Go.Proofs.YtgkgjjnlblgklaaDoor
