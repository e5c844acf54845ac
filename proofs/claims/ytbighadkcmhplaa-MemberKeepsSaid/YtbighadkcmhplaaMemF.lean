/-
  What package member, and the document, send at any port.
-/
import Derived.Test.YtbighadkcmhplaaMemE
namespace Go.Proofs.Ytbighadkcmhplaa
open Go.RowKit
namespace Mem
open Oct Eth

/-- The frame that is sent. -/
def sndF (l : List Vl) (n q d s p t : Int) (b : ByteArray) : Value := if sndT l n q then fr d s true p n t b else if sndU l n q then fr d s false 0 0 t b else fr 0 0 false 0 0 0 ⟨#[]⟩

theorem none_snd {l : List Vl} {n q : Int} (h : isV l n = false) : sndT l n q = false ∧ sndU l n q = false := by
  have hf : findV l n = none := by
    unfold isV at h
    cases hq : findV l n with
    | none => rfl
    | some y => rw [hq] at h; cases h
  unfold sndT sndU gotV
  rw [hf]
  simp [none3, Por.hasZ, Por.hasN, Por.low]

set_option maxRecDepth 20000 in
set_option maxHeartbeats 4000000 in
theorem sends_any (o k : Nat → Int) (l : List Vl) (hl : l.length ≤ maxLen) (A : Option Addr) (c : Nat) (q n : Int) (d s : Int) (g : Bool) (p v t : Int) (b : ByteArray) (w : World) (hA : Vls w A l) :
    Calls Try.prog 9 #[pv o k A l.length c, .int .i64 q, .int .i64 n, fr d s g p v t b] w fun e w' => e = .returned (.tuple #[sndF l n q d s p t b, .bool (sndB l n q)]) ∧ Below w.heap.size w w' := by
  have HF := Lib.hid (fun (w : World) hA => find_any o k l hl A c n w hA)
  have HT := Lib.hid (fun w => Por.has_any (gotV l n).t q w)
  have HU := Lib.hid (fun w => Por.has_any (gotV l n).u q w)
  have HRT := Lib.hid (show ∀ w, Calls Try.prog 26 #[fr d s g p v t b, .bool true, .int .i64 n] w fun e w' => e = .returned (fr d s true p n t b) ∧ Below w.heap.size w w' from fun w => retag_any d s g p v t b true n w)
  have HRF := Lib.hid (show ∀ w, Calls Try.prog 26 #[fr d s g p v t b, .bool false, .int .i64 n] w fun e w' => e = .returned (fr d s false 0 0 t b) ∧ Below w.heap.size w w' from fun w => retag_any d s g p v t b false n w)
  have HE := Lib.hid True.intro
  have HN := Lib.hid (show isV l n = false → sndT l n q = false ∧ sndU l n q = false from fun h => none_snd h)
  have bel := Lib.hid (Bx.bel_box (Bx.bel_box (Bx.box_below w (po o k A l.length c)) (fo d s g p v t b)) (fo 0 0 false 0 0 0 ⟨#[]⟩))
  have A1 := Lib.hid (hA.below bel.out)
  have P1 := Lib.hid (((Bx.Blk.new w (pc o k A l.length c) 25).more (fo d s g p v t b)).more (fo 0 0 false 0 0 0 ⟨#[]⟩))
  have F1 := Lib.hid ((Bx.Blk.new_at (W := w.alloc (po o k A l.length c)) (k := w.heap.size + 1) (fc d s g p v t b) 29 (by simp)).more (fo 0 0 false 0 0 0 ⟨#[]⟩))
  have R := Lib.hid (Bx.Fre.new_at (W := (w.alloc (po o k A l.length c)).alloc (fo d s g p v t b)) (k := w.heap.size + 1 + 1) (fc 0 0 false 0 0 0 ⟨#[]⟩) 29 (by simp))
  have hle : w.heap.size ≤ w.heap.size + 1 + 1 := by omega
  have hT : sndT l n q = Por.hasZ (Por.low (gotV l n).t) q := rfl
  have hU : sndU l n q = Por.hasZ (Por.low (gotV l n).u) q := rfl
  rw [hT, hU] at HN
  clear hA
  generalize Por.hasZ (Por.low (gotV l n).t) q = T at *
  generalize Por.hasZ (Por.low (gotV l n).u) q = U at *
  generalize gotV l n = y at *
  generalize isV l n = is at *
  obtain ⟨y1, y2, y3⟩ := y
  simp only at HT HU
  clear HN
  go_enter Try.func9, Try.ntmps9
  go_wp2_with (first | ((with_reducible refine load_at ?_ ?_ w.heap.size ?_ o k A l.length c ?_ ?_); (· rfl); (· rfl); (· rfl); (· exact P1.out)))
  refine (HF.out _ A1.out).mono ?_; rintro e w7 ⟨rfl, hb⟩
  replace bel := Lib.hid (Bx.bel_box (Bx.then_below bel.out hb) (vo ⟨y1, y2, y3⟩))
  replace F1 := Lib.hid ((F1.out.keep hb).more (vo ⟨y1, y2, y3⟩))
  replace R := Lib.hid ((R.out.keep hb).more (vo ⟨y1, y2, y3⟩))
  have V := Lib.hid (Bx.Blk.new w7 (vc ⟨y1, y2, y3⟩) 38)
  clear hb P1 A1 HF
  obtain ⟨v0, v1, v2⟩ := V.out.all3
  obtain ⟨f0, f1, f2, f3, f4, f5, f6⟩ := F1.out.all7
  cases T with
  | true =>
    have HZ := Lib.hid (show sndF l n q d s p t b = fr d s true p n t b ∧ sndB l n q = true from ⟨by unfold sndF; rw [hT]; rfl, by unfold sndB; rw [hT]; rfl⟩)
    go_wp2_with fail
    refine (HT.out _).mono ?_; rintro e w8 ⟨rfl, rfl⟩
    go_wp2_with fail
    refine (HRT.out _).mono ?_; rintro e w9 ⟨rfl, hb⟩
    replace bel := Lib.hid (Bx.then_below bel.out hb)
    replace R := Lib.hid (R.out.keep hb)
    clear hb f0 f1 f2 f3 f4 f5 f6
    clear HE F1 V HT HU HRT HRF hU hT
    obtain ⟨⟨r0, r1, r2, r3, r4, r5, r6⟩, g0, g1, g2, g3, g4, g5, g6⟩ := R.out.all7
    have R2 := Lib.hid ((R.out.1.put7 (x0 := .int .u64 d) (x1 := .int .u64 s) (x2 := .bool true) (x3 := .int .i64 p) (x4 := .int .i64 n) (x5 := .int .i64 t) (x6 := .string b)).all7)
    have bel3 := Lib.hid (Bx.bel_set7 (x0 := .int .u64 d) (x1 := .int .u64 s) (x2 := .bool true) (x3 := .int .i64 p) (x4 := .int .i64 n) (x5 := .int .i64 t) (x6 := .string b) hle bel.out)
    clear R bel
    go_wp2
    refine bodyPost_ret (v := .tuple #[fr d s true p n t b, .bool true]) ?_ rfl ?_
    · obtain ⟨d0, d1, d2, d3, d4, d5, d6⟩ := R2.out
      simp [results, Try.results9, d0, d1, d2, d3, d4, d5, d6, go_sem]
    · exact ⟨by rw [HZ.out.1, HZ.out.2], bel3.out⟩

  | false =>
    go_wp2_with fail
    refine (HT.out _).mono ?_; rintro e w8 ⟨rfl, rfl⟩

    cases U with
    | true =>
      have HZ := Lib.hid (show sndF l n q d s p t b = fr d s false 0 0 t b ∧ sndB l n q = true from ⟨by unfold sndF; rw [hT, hU]; rfl, by unfold sndB; rw [hT, hU]; rfl⟩)
      go_wp2_with fail
      refine (HU.out _).mono ?_; rintro e w8 ⟨rfl, rfl⟩
      go_wp2_with fail
      refine (HRF.out _).mono ?_; rintro e w9 ⟨rfl, hb⟩
      replace bel := Lib.hid (Bx.then_below bel.out hb)
      replace R := Lib.hid (R.out.keep hb)
      clear hb f0 f1 f2 f3 f4 f5 f6
      clear HE F1 V HT HU HRT HRF hU hT
      obtain ⟨⟨r0, r1, r2, r3, r4, r5, r6⟩, g0, g1, g2, g3, g4, g5, g6⟩ := R.out.all7
      have R2 := Lib.hid ((R.out.1.put7 (x0 := .int .u64 d) (x1 := .int .u64 s) (x2 := .bool false) (x3 := .int .i64 0) (x4 := .int .i64 0) (x5 := .int .i64 t) (x6 := .string b)).all7)
      have bel3 := Lib.hid (Bx.bel_set7 (x0 := .int .u64 d) (x1 := .int .u64 s) (x2 := .bool false) (x3 := .int .i64 0) (x4 := .int .i64 0) (x5 := .int .i64 t) (x6 := .string b) hle bel.out)
      clear R bel
      go_wp2
      refine bodyPost_ret (v := .tuple #[fr d s false 0 0 t b, .bool true]) ?_ rfl ?_
      · obtain ⟨d0, d1, d2, d3, d4, d5, d6⟩ := R2.out
        simp [results, Try.results9, d0, d1, d2, d3, d4, d5, d6, go_sem]
      · exact ⟨by rw [HZ.out.1, HZ.out.2], bel3.out⟩

    | false =>
      have HZ := Lib.hid (show sndF l n q d s p t b = fr 0 0 false 0 0 0 ⟨#[]⟩ ∧ sndB l n q = false from ⟨by unfold sndF; rw [hT, hU]; rfl, by unfold sndB; rw [hT, hU]; rfl⟩)
      go_wp2_with fail
      refine (HU.out _).mono ?_; rintro e w8 ⟨rfl, rfl⟩
      clear HE F1 V HT HU HRT HRF hU hT f0 f1 f2 f3 f4 f5 f6
      obtain ⟨⟨r0, r1, r2, r3, r4, r5, r6⟩, g0, g1, g2, g3, g4, g5, g6⟩ := R.out.all7
      have R2 := Lib.hid ((R.out.1.put7 (x0 := .int .u64 0) (x1 := .int .u64 0) (x2 := .bool false) (x3 := .int .i64 0) (x4 := .int .i64 0) (x5 := .int .i64 0) (x6 := .string ⟨#[]⟩)).all7)
      have bel3 := Lib.hid (Bx.bel_set7 (x0 := .int .u64 0) (x1 := .int .u64 0) (x2 := .bool false) (x3 := .int .i64 0) (x4 := .int .i64 0) (x5 := .int .i64 0) (x6 := .string ⟨#[]⟩) hle bel.out)
      clear R bel
      go_wp2
      refine bodyPost_ret (v := .tuple #[fr 0 0 false 0 0 0 ⟨#[]⟩, .bool false]) ?_ rfl ?_
      · obtain ⟨d0, d1, d2, d3, d4, d5, d6⟩ := R2.out
        simp [results, Try.results9, d0, d1, d2, d3, d4, d5, d6, go_sem]
      · exact ⟨by rw [HZ.out.1, HZ.out.2], bel3.out⟩

set_option maxRecDepth 20000 in
set_option maxHeartbeats 4000000 in
theorem rsends_any (o k : Nat → Int) (l : List Vl) (hl : l.length ≤ maxLen) (A : Option Addr) (c : Nat) (q n : Int) (d s : Int) (g : Bool) (p v t : Int) (b : ByteArray) (w : World) (hA : Vls w A l) :
    Calls Try.prog 10 #[pv o k A l.length c, .int .i64 q, .int .i64 n, fr d s g p v t b] w fun e w' => e = .returned (.tuple #[sndF l n q d s p t b, .bool (sndB l n q)]) ∧ Below w.heap.size w w' := by
  have HF := Lib.hid (fun (w : World) hA => rfind_any o k l hl A c n w hA)
  have HT := Lib.hid (fun w => Por.rhas_any (gotV l n).t q w)
  have HU := Lib.hid (fun w => Por.rhas_any (gotV l n).u q w)
  have HRT := Lib.hid (show ∀ w, Calls Try.prog 27 #[fr d s g p v t b, .bool true, .int .i64 n] w fun e w' => e = .returned (fr d s true p n t b) ∧ Below w.heap.size w w' from fun w => rretag_any d s g p v t b true n w)
  have HRF := Lib.hid (show ∀ w, Calls Try.prog 27 #[fr d s g p v t b, .bool false, .int .i64 0] w fun e w' => e = .returned (fr d s false 0 0 t b) ∧ Below w.heap.size w w' from fun w => rretag_any d s g p v t b false 0 w)
  have HE := Lib.hid True.intro
  have HN := Lib.hid (show isV l n = false → sndT l n q = false ∧ sndU l n q = false from fun h => none_snd h)
  have bel := Lib.hid (Bx.bel_box (Bx.bel_box (Bx.box_below w (po o k A l.length c)) (fo d s g p v t b)) (fo 0 0 false 0 0 0 ⟨#[]⟩))
  have A1 := Lib.hid (hA.below bel.out)
  have P1 := Lib.hid (((Bx.Blk.new w (pc o k A l.length c) 25).more (fo d s g p v t b)).more (fo 0 0 false 0 0 0 ⟨#[]⟩))
  have F1 := Lib.hid ((Bx.Blk.new_at (W := w.alloc (po o k A l.length c)) (k := w.heap.size + 1) (fc d s g p v t b) 29 (by simp)).more (fo 0 0 false 0 0 0 ⟨#[]⟩))
  have R := Lib.hid (Bx.Fre.new_at (W := (w.alloc (po o k A l.length c)).alloc (fo d s g p v t b)) (k := w.heap.size + 1 + 1) (fc 0 0 false 0 0 0 ⟨#[]⟩) 29 (by simp))
  have hle : w.heap.size ≤ w.heap.size + 1 + 1 := by omega
  have hT : sndT l n q = Por.hasZ (Por.low (gotV l n).t) q := rfl
  have hU : sndU l n q = Por.hasZ (Por.low (gotV l n).u) q := rfl
  rw [hT, hU] at HN
  clear hA
  generalize Por.hasZ (Por.low (gotV l n).t) q = T at *
  generalize Por.hasZ (Por.low (gotV l n).u) q = U at *
  generalize gotV l n = y at *
  generalize isV l n = is at *
  obtain ⟨y1, y2, y3⟩ := y
  simp only at HT HU
  go_enter Try.func10, Try.ntmps10
  go_wp2_with (first | ((with_reducible refine load_at ?_ ?_ w.heap.size ?_ o k A l.length c ?_ ?_); (· rfl); (· rfl); (· rfl); (· exact P1.out)))
  refine (HF.out _ A1.out).mono ?_; rintro e w7 ⟨rfl, hb⟩
  replace bel := Lib.hid (Bx.bel_box (Bx.then_below bel.out hb) (vo ⟨y1, y2, y3⟩))
  replace F1 := Lib.hid ((F1.out.keep hb).more (vo ⟨y1, y2, y3⟩))
  replace R := Lib.hid ((R.out.keep hb).more (vo ⟨y1, y2, y3⟩))
  have V := Lib.hid (Bx.Blk.new w7 (vc ⟨y1, y2, y3⟩) 38)
  clear hb P1 A1 HF
  obtain ⟨v0, v1, v2⟩ := V.out.all3
  obtain ⟨f0, f1, f2, f3, f4, f5, f6⟩ := F1.out.all7
  cases is with
  | false =>
    obtain ⟨rfl, rfl⟩ := HN.out rfl
    have HZ := Lib.hid (show sndF l n q d s p t b = fr 0 0 false 0 0 0 ⟨#[]⟩ ∧ sndB l n q = false from ⟨by unfold sndF; rw [hT, hU]; rfl, by unfold sndB; rw [hT, hU]; rfl⟩)
    clear HE F1 V HT HU HRT HRF hU hT HN f0 f1 f2 f3 f4 f5 f6
    obtain ⟨⟨r0, r1, r2, r3, r4, r5, r6⟩, g0, g1, g2, g3, g4, g5, g6⟩ := R.out.all7
    have R2 := Lib.hid ((R.out.1.put7 (x0 := .int .u64 0) (x1 := .int .u64 0) (x2 := .bool false) (x3 := .int .i64 0) (x4 := .int .i64 0) (x5 := .int .i64 0) (x6 := .string ⟨#[]⟩)).all7)
    have bel3 := Lib.hid (Bx.bel_set7 (x0 := .int .u64 0) (x1 := .int .u64 0) (x2 := .bool false) (x3 := .int .i64 0) (x4 := .int .i64 0) (x5 := .int .i64 0) (x6 := .string ⟨#[]⟩) hle bel.out)
    clear R bel
    go_wp2
    refine bodyPost_ret (v := .tuple #[fr 0 0 false 0 0 0 ⟨#[]⟩, .bool false]) ?_ rfl ?_
    · obtain ⟨d0, d1, d2, d3, d4, d5, d6⟩ := R2.out
      simp [results, Try.results10, d0, d1, d2, d3, d4, d5, d6, go_sem]
    · exact ⟨by rw [HZ.out.1, HZ.out.2], bel3.out⟩

  | true =>
    clear HN
    cases T with
    | true =>
      have HZ := Lib.hid (show sndF l n q d s p t b = fr d s true p n t b ∧ sndB l n q = true from ⟨by unfold sndF; rw [hT]; rfl, by unfold sndB; rw [hT]; rfl⟩)
      go_wp2_with fail
      refine (HT.out _).mono ?_; rintro e w8 ⟨rfl, rfl⟩
      go_wp2_with fail
      refine (HRT.out _).mono ?_; rintro e w9 ⟨rfl, hb⟩
      replace bel := Lib.hid (Bx.then_below bel.out hb)
      replace R := Lib.hid (R.out.keep hb)
      clear hb f0 f1 f2 f3 f4 f5 f6
      clear HE F1 V HT HU HRT HRF hU hT
      obtain ⟨⟨r0, r1, r2, r3, r4, r5, r6⟩, g0, g1, g2, g3, g4, g5, g6⟩ := R.out.all7
      have R2 := Lib.hid ((R.out.1.put7 (x0 := .int .u64 d) (x1 := .int .u64 s) (x2 := .bool true) (x3 := .int .i64 p) (x4 := .int .i64 n) (x5 := .int .i64 t) (x6 := .string b)).all7)
      have bel3 := Lib.hid (Bx.bel_set7 (x0 := .int .u64 d) (x1 := .int .u64 s) (x2 := .bool true) (x3 := .int .i64 p) (x4 := .int .i64 n) (x5 := .int .i64 t) (x6 := .string b) hle bel.out)
      clear R bel
      go_wp2
      refine bodyPost_ret (v := .tuple #[fr d s true p n t b, .bool true]) ?_ rfl ?_
      · obtain ⟨d0, d1, d2, d3, d4, d5, d6⟩ := R2.out
        simp [results, Try.results10, d0, d1, d2, d3, d4, d5, d6, go_sem]
      · exact ⟨by rw [HZ.out.1, HZ.out.2], bel3.out⟩

    | false =>
      go_wp2_with fail
      refine (HT.out _).mono ?_; rintro e w8 ⟨rfl, rfl⟩

      cases U with
      | true =>
        have HZ := Lib.hid (show sndF l n q d s p t b = fr d s false 0 0 t b ∧ sndB l n q = true from ⟨by unfold sndF; rw [hT, hU]; rfl, by unfold sndB; rw [hT, hU]; rfl⟩)
        go_wp2_with fail
        refine (HU.out _).mono ?_; rintro e w8 ⟨rfl, rfl⟩
        go_wp2_with fail
        refine (HRF.out _).mono ?_; rintro e w9 ⟨rfl, hb⟩
        replace bel := Lib.hid (Bx.then_below bel.out hb)
        replace R := Lib.hid (R.out.keep hb)
        clear hb f0 f1 f2 f3 f4 f5 f6
        clear HE F1 V HT HU HRT HRF hU hT
        obtain ⟨⟨r0, r1, r2, r3, r4, r5, r6⟩, g0, g1, g2, g3, g4, g5, g6⟩ := R.out.all7
        have R2 := Lib.hid ((R.out.1.put7 (x0 := .int .u64 d) (x1 := .int .u64 s) (x2 := .bool false) (x3 := .int .i64 0) (x4 := .int .i64 0) (x5 := .int .i64 t) (x6 := .string b)).all7)
        have bel3 := Lib.hid (Bx.bel_set7 (x0 := .int .u64 d) (x1 := .int .u64 s) (x2 := .bool false) (x3 := .int .i64 0) (x4 := .int .i64 0) (x5 := .int .i64 t) (x6 := .string b) hle bel.out)
        clear R bel
        go_wp2
        refine bodyPost_ret (v := .tuple #[fr d s false 0 0 t b, .bool true]) ?_ rfl ?_
        · obtain ⟨d0, d1, d2, d3, d4, d5, d6⟩ := R2.out
          simp [results, Try.results10, d0, d1, d2, d3, d4, d5, d6, go_sem]
        · exact ⟨by rw [HZ.out.1, HZ.out.2], bel3.out⟩

      | false =>
        have HZ := Lib.hid (show sndF l n q d s p t b = fr 0 0 false 0 0 0 ⟨#[]⟩ ∧ sndB l n q = false from ⟨by unfold sndF; rw [hT, hU]; rfl, by unfold sndB; rw [hT, hU]; rfl⟩)
        go_wp2_with fail
        refine (HU.out _).mono ?_; rintro e w8 ⟨rfl, rfl⟩
        clear HE F1 V HT HU HRT HRF hU hT f0 f1 f2 f3 f4 f5 f6
        obtain ⟨⟨r0, r1, r2, r3, r4, r5, r6⟩, g0, g1, g2, g3, g4, g5, g6⟩ := R.out.all7
        have R2 := Lib.hid ((R.out.1.put7 (x0 := .int .u64 0) (x1 := .int .u64 0) (x2 := .bool false) (x3 := .int .i64 0) (x4 := .int .i64 0) (x5 := .int .i64 0) (x6 := .string ⟨#[]⟩)).all7)
        have bel3 := Lib.hid (Bx.bel_set7 (x0 := .int .u64 0) (x1 := .int .u64 0) (x2 := .bool false) (x3 := .int .i64 0) (x4 := .int .i64 0) (x5 := .int .i64 0) (x6 := .string ⟨#[]⟩) hle bel.out)
        clear R bel
        go_wp2
        refine bodyPost_ret (v := .tuple #[fr 0 0 false 0 0 0 ⟨#[]⟩, .bool false]) ?_ rfl ?_
        · obtain ⟨d0, d1, d2, d3, d4, d5, d6⟩ := R2.out
          simp [results, Try.results10, d0, d1, d2, d3, d4, d5, d6, go_sem]
        · exact ⟨by rw [HZ.out.1, HZ.out.2], bel3.out⟩

end Mem
end Go.Proofs.Ytbighadkcmhplaa
