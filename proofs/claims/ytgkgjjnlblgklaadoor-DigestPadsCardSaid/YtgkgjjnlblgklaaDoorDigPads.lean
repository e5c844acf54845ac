/-
  The statement DigestPads (a tied card): for every text the law DigestPads returns true, and its argument reads afterwards as it read before.
-/
import Derived.Test.YtgkgjjnlblgklaaDoorDigK
import Derived.Test.YtgkgjjnlblgklaaDoorDigHome
import Derived.Test.YtgkgjjnlblgklaaDoorCards
import Derived.Test.YtgkgjjnlblgklaaDoorTie
import Derived.SevenTiedAt
import Derived.StillTailTactics
namespace Go.Proofs.YtgkgjjnlblgklaaDoor
open Go.RowKit
namespace Dig
open Oct Fr

/-- What a padded text is, place by place. -/
structure Padded (s P : ByteArray) (z : Nat) : Prop where
  zl : z < 64
  size : P.size = s.size + 9 + z
  whole : P.size % 64 = 0
  front : P.extract 0 s.size = s
  mark : ∀ h : s.size < P.size, P[s.size].toNat = 128
  mid : ∀ (k : Nat) (h : k < P.size), s.size < k → k < s.size + 1 + z → P[k].toNat = 0
  low : ∀ h : s.size + 1 + z < P.size, P[s.size + 1 + z].toNat = 8 * s.size % 256
  high : ∀ h : s.size + 2 + z < P.size, P[s.size + 2 + z].toNat = 8 * s.size / 256 % 256

theorem padded (s : ByteArray) : Padded s ⟨(padL s.data.toList).toArray⟩ (zerosN s.size) := by
  have hl : s.data.toList.length = s.size := by simp
  have hsz : (⟨(padL s.data.toList).toArray⟩ : ByteArray).size = s.size + 9 + zerosN s.size := by
    show (padL s.data.toList).toArray.size = _
    simp [padL, lowL_length]
    omega
  have hget : ∀ (k : Nat) (h : k < (⟨(padL s.data.toList).toArray⟩ : ByteArray).size) (v : UInt8), (padL s.data.toList)[k]? = some v → (⟨(padL s.data.toList).toArray⟩ : ByteArray)[k] = v := by
    intro k h v hv
    have h' : k < (padL s.data.toList).length := (List.getElem?_eq_some_iff.1 hv).1
    have e : (⟨(padL s.data.toList).toArray⟩ : ByteArray)[k] = (padL s.data.toList)[k] := by
      show (padL s.data.toList).toArray[k] = _
      simp
    rw [e]
    exact (List.getElem?_eq_some_iff.1 hv).2
  refine ⟨zerosN_lt _, hsz, ?_, ?_, ?_, ?_, ?_, ?_⟩
  · rw [hsz]; unfold zerosN; omega
  · apply ByteArray.ext
    rw [ByteArray.data_extract]
    apply Array.toList_inj.1
    rw [Array.toList_extract, List.extract_eq_take_drop]
    simp only [padL, List.drop_zero, List.append_assoc]
    rw [List.take_append_of_le_length (by simp)]
    exact List.take_of_length_le (by simp)
  · intro h
    rw [hget s.size h 128 ?_]
    · rfl
    · simp only [padL, List.append_assoc]
      rw [List.getElem?_append_right (by omega), hl, Nat.sub_self]
      rfl
  · intro k h h1 h2
    rw [hget k h 0 ?_]
    · rfl
    · simp only [padL, List.append_assoc, hl]
      rw [List.getElem?_append_right (by omega), hl, List.getElem?_append_right (by simp; omega), List.getElem?_append_left (by simp; omega), List.getElem?_replicate, if_pos (by simp; omega)]
  · intro h
    rw [hget _ h (UInt8.ofNat (8 * s.size)) ?_]
    · simp
    · simp only [padL, List.append_assoc, hl]
      rw [List.getElem?_append_right (by omega), hl, List.getElem?_append_right (by simp; omega), List.getElem?_append_right (by simp; omega)]
      have e : s.size + 1 + zerosN s.size - s.size - [(128 : UInt8)].length - (List.replicate (zerosN s.size) (0 : UInt8)).length = 0 := by simp; omega
      rw [e]
      rfl
  · intro h
    rw [hget _ h (UInt8.ofNat (8 * s.size / 256)) ?_]
    · simp
    · simp only [padL, List.append_assoc, hl]
      rw [List.getElem?_append_right (by omega), hl, List.getElem?_append_right (by simp; omega), List.getElem?_append_right (by simp; omega)]
      have e : s.size + 2 + zerosN s.size - s.size - [(128 : UInt8)].length - (List.replicate (zerosN s.size) (0 : UInt8)).length = 1 := by simp; omega
      rw [e]
      rfl

theorem low16 (n : Nat) (hn : n ≤ 1000) : bits .and .i64 (8 * (n : Int)) 65535 = 8 * (n : Int) := by
  simp only [bits, BitVec.toNat_and]
  rw [show (BitVec.ofInt IntKind.i64.bits 65535).toNat = 65535 by decide +kernel, show (65535 : Nat) = 2 ^ 16 - 1 by rfl, Nat.and_two_pow_sub_one_eq_mod, BitVec.toNat_ofInt, show IntKind.i64.bits = 64 by rfl]
  have h : ((((8 * (n : Int)) % (2 ^ 64 : Nat)).toNat % 2 ^ 16 : Nat) : Int) = 8 * (n : Int) := by omega
  rw [h]
  exact IntWalk.i64_in _ (by omega)

set_option maxHeartbeats 1000000 in
theorem walk_pads (w : World) (s : ByteArray) (ws : s.size ≤ maxLen) (hm : Home w) :
    Calls Tryd.prog 4 #[.string s] w fun e w' => e = .returned (.bool true) ∧ Below w.heap.size w w' := by
  unfold maxLen at ws
  have HM := Lib.hid hm
  clear hm
  by_cases hs : 1000 < s.size
  · have hs' : decide (1000 < (s.size : Int)) = true := by simp; omega
    go_enter Tryd.func4, Tryd.ntmps4
    go_wp2_with fail
    refine (dawake_any _ HM.out).mono ?_; rintro e w1 ⟨rfl, hb1⟩
    go_wp2_with fail
    go_ret
    exact ⟨rfl, hb1⟩
  · have hs' : decide (1000 < (s.size : Int)) = false := by simp; omega
    have HP := Lib.hid (fun w => dpad_any s w (by omega))
    have hp := padded s
    obtain ⟨z, hz⟩ : ∃ z, zerosN s.size = z := ⟨_, rfl⟩
    rw [hz] at hp
    clear hz
    generalize (⟨(padL s.data.toList).toArray⟩ : ByteArray) = P at *
    have HPd := Lib.hid hp
    obtain ⟨hz, h2, h3, h4, h5, h6, h7, h8⟩ := hp
    have m1 : s.size < P.size := by omega
    have m2 := h5 m1
    have i8 : s.size + 1 + z < P.size := by omega
    have i7 : s.size + 2 + z < P.size := by omega
    have v8 := h7 i8
    have v7 := h8 i7
    have HV := Lib.hid (And.intro v8 v7)
    have q1 : ((P.size : Int) % 64 != 0) = false := by simp; omega
    have g1 : (s.size : Int) + 9 ≤ (P.size : Int) := by omega
    have g2 : (P.size : Int) ≤ (s.size : Int) + 72 := by omega
    have H4 := Lib.hid h4
    have hsl : s.size ≤ 1000 := by omega
    have HZ := Lib.hid h2
    have hPs : P.size ≤ 1072 := by omega
    clear h2 h3 h5 h6 h7 h8 hs ws v8 v7 hz
    have e8 : (P.size : Int) - 8 = ((s.size + 1 + z : Nat) : Int) := by have := HZ.out; omega
    have E8 := Lib.hid e8
    clear e8
    go_enter Tryd.func4, Tryd.ntmps4
    go_wp2_with fail
    refine (HP.out _).mono ?_; rintro e w1 ⟨rfl, hb1⟩
    have HB := Lib.hid hb1
    clear hb1
    go_wp2_with fail
    go_loop [4] (fun i => ∃ k : Nat, s.size + 1 ≤ k ∧ k ≤ s.size + 1 + z ∧ i = .int .i64 k) (fun i => s.size + 1 + z - (intOf i).toNat)
    case atStart => exact ⟨s.size + 1, by omega, by omega, by go_num⟩
    case round =>
      obtain ⟨k, hk1, hk2, rfl⟩ := hrel
      by_cases hlt : k < s.size + 1 + z
      · have hkP : k < P.size := by omega
        have hk0 := HPd.out.mid k hkP (by omega) hlt
        have q : decide ((k : Int) < (P.size : Int) - 8) = true := by have := E8.out; simp; omega
        go_wp2
        go_round
        case rel => exact ⟨k + 1, by omega, by omega, by go_num⟩
        case measure => simp [intOf]; omega
      · have q : decide ((k : Int) < (P.size : Int) - 8) = false := by have := E8.out; simp; omega
        obtain ⟨v8, v7⟩ := HV.out
        have t1 : (((P[s.size + 1 + z].toNat : Nat) : Int) + 256 * ((P[s.size + 2 + z].toNat : Nat) : Int)) = 8 * (s.size : Int) := by rw [v8, v7]; omega
        have c1 : IntKind.i64.wrap ((P.size : Int) - 8) = ((s.size + 1 + z : Nat) : Int) := by rw [E8.out]; exact IntWalk.i64_in _ (by omega)
        have c2 : IntKind.i64.wrap ((P.size : Int) - 7) = ((s.size + 2 + z : Nat) : Int) := by rw [show (P.size : Int) - 7 = ((s.size + 2 + z : Nat) : Int) by have := E8.out; omega]; exact IntWalk.i64_in _ (by omega)
        have qi : decide (k < s.size + 1 + z) = false := by simpa using hlt
        clear v8 v7 HV hlt hk2 hk1 HPd E8 HZ
        generalize s.size + 1 + z = i at *
        generalize s.size + 2 + z = j at *
        have i8' : (i : Int) < (P.size : Int) := by omega
        have i7' : (j : Int) < (P.size : Int) := by omega
        have b8 := P[i].toNat_lt
        have b7 := P[j].toNat_lt
        obtain ⟨x, hx⟩ : ∃ x, P[i].toNat = x := ⟨_, rfl⟩
        obtain ⟨y, hy⟩ : ∃ y, P[j].toNat = y := ⟨_, rfl⟩
        rw [hx] at t1 b8
        rw [hy] at t1 b7
        have c3 : IntKind.i64.wrap (x : Int) = (x : Int) := IntWalk.i64_in _ (by omega)
        have c4 : IntKind.i64.wrap (y : Int) = (y : Int) := IntWalk.i64_in _ (by omega)
        have c5 : IntKind.i64.wrap (256 * (y : Int)) = 256 * (y : Int) := IntWalk.i64_in _ (by omega)
        have c6 : IntKind.i64.wrap ((x : Int) + 256 * (y : Int)) = 8 * (s.size : Int) := by rw [t1]; exact IntWalk.i64_in _ (by omega)
        have c7 : IntKind.i64.wrap (8 * (s.size : Int)) = 8 * (s.size : Int) := IntWalk.i64_in _ (by omega)
        have c8 := low16 s.size hsl
        clear t1
        go_wp2
        go_still_tail 20, (by kernel_rfl)
        change wpList _ _ _ _ _ w1.drew
        have HB2 : Hid (Below w.heap.size w w1.drew) := Lib.hid HB.out.drew
        clear HB c1 c2 c3 c4 c5 c6 c7 c8 hx hy
        generalize w1.drew = w2 at *
        go_wp2_with fail
        refine (dawake_any _ (HM.out.below HB2.out)).mono ?_; rintro e w3 ⟨rfl, hb3⟩
        go_wp2_with fail
        go_ret
        exact ⟨rfl, Bx.then_below HB2.out hb3⟩

end Dig
namespace LawDigestPads
open Go.ChangeShapes Go.WideShapes Go.ChangeAt Go.RowKit
open Go.ChangeMaps (open_string shut_string)

theorem own : ownKnob Tryd.prog.godebug = none := by kernel_rfl
theorem laidOut : laidOutB Tryd.prog = true := by kernel_rfl
theorem plain : (Rows.digestPadsRow.laid.all fun x => x.2.handleName?.isNone) = true := by kernel_rfl

set_option maxRecDepth 100000 in
theorem lifted (os : Os) (started : os.Started) (H : Type) (enc : TypeId × Value → H) :
    ReturnsInHanded {} Tryd.checked os 4 .any (fun w args => (Rows.digestPadsSpec.pre enc Tryd.prog Tryd.f4 Rows.digestPadsRow.domain false w args ∧ laidMetH Tryd.prog Rows.digestPadsRow.laid w) ∧ sizedMet enc Tryd.prog Tryd.f4 (OpenSpec.ofChange Rows.digestPadsSpec) false w args)
      (Rows.digestPadsSpec.post enc Tryd.prog Tryd.f4 false true false false) := by
  refine Fr.law_lift_laid (C := Tryd.checked) (laid := Rows.digestPadsRow.laid) (tb := 4) own started (by kernel_rfl) Tryd.func4
    (ChangeSpec.witness_shaped (enc := enc) (C := Tryd.checked) (os := os) (X := fun w _ => laidMetH Tryd.prog Rows.digestPadsRow.laid w) false (World.laidAll Tryd.prog os Rows.digestPadsRow.laid) #[.string ByteArray.empty] 8 (World.laidAll_os _ _ _)
      (World.shaped_of_ZipB (by kernel_rfl) (by kernel_rfl)) (by kernel_rfl) (by kernel_rfl) (by kernel_rfl)
      (by rw [MakeChecks.laidMetH_plain _ _ _ plain]; exact laidMet_laidAll _ (by kernel_rfl) (by kernel_rfl)))
    laidOut (by rw [Tryd.params4]; decide +kernel) rfl Tryd.underlying4 rfl ?_ ?_
  · intro ds hl
    match ds, hl with
    | [d0], _ => rfl
  · intro W base args ds p hsh hL hval hA
    rw [Tryd.params4] at hA hval
    obtain ⟨v0, vs0, d0, ds0, p0, q0, hargs, rfl, rfl, h0, r0⟩ := trodAll_cons hA
    obtain ⟨rfl, rfl, rfl⟩ := trodAll_nil r0
    obtain rfl : args = #[v0] := by cases args; simp_all
    obtain ⟨a0, rfl, rfl, rfl, w0⟩ := open_string Tryd.underlying9 (hval 0 9 v0 rfl rfl) h0
    exact Dig.walk_pads W a0 w0 (Dig.home_of hsh hL plain (by simp [Rows.digestPadsRow]))

theorem over : Rows.digestPadsRow.holds Tryd.pinned (OpenSpec.ofChange Rows.digestPadsSpec) :=
  OpenClaim.holds_of_wide 4 Tryd.f4 rfl rfl rfl rfl rfl rfl rfl ⟨rfl, rfl, rfl, rfl, rfl⟩ rfl rfl rfl rfl rfl (by kernel_rfl) Tryd.func4 (by kernel_rfl)
    (of_decide_eq_true (by kernel_rfl)) (by unfold Func.isWrapper; first | (rw [if_pos (by decide +kernel)]; kernel_rfl) | (rw [if_neg (by decide +kernel)]; exact ⟨rfl, rfl⟩))
    (fun os started H enc _ => lifted os started H enc)
end LawDigestPads

/-- The statement DigestPads (the tied card). -/
theorem digestPads_holds : Rows.DigestPadsCardSaid :=
  Claim7.holds_tied_plain_at .later [] _ true _ _ LawDigestPads.over (fun _ h => by cases h) (by kernel_rfl) (fun _ h => by cases h) digestPads_row_tie rfl ⟨rfl, rfl⟩ (by kernel_rfl) rfl
    (fun f fn hf hfn => by
      obtain rfl : f = 4 := Option.some.inj ((show Tryd.prog.funcNamed Rows.digestPadsRow.func = some 4 by kernel_rfl).symm.trans hf) |>.symm
      obtain rfl : fn = Tryd.f4 := (Option.some.inj (Tryd.func4.symm.trans hfn)).symm
      exact ⟨by kernel_rfl, fun j t ht => by
        rw [Tryd.params4] at ht
        have hm : t ∈ [9] := by have := Array.mem_of_getElem? ht; simp at this; simp [this]
        have hall : ([9].all fun u => !Tryd.prog.wantsStandIn u) = true := by kernel_rfl
        exact (show Tryd.prog.wantsStandIn t = false by simpa using List.all_eq_true.1 hall t hm)⟩)
    (by kernel_rfl)

end Go.Proofs.YtgkgjjnlblgklaaDoor
