/-
  What Ranges answers, and the document's, for every set.
-/
import Derived.Test.YtkflphnldnannaaPorC
namespace Go.Proofs.Ytkflphnldnannaa
open Go.RowKit
namespace Por

theorem has_is (x p : Int) (b : Bool) (hb : hasZ (low x) p = b) (w : World) :
    Calls Try.prog 12 #[.int .i64 x, .int .i64 p] w fun e w' => e = .returned (.bool b) ∧ w = w' := by
  have := has_any x p w
  rw [hb] at this
  exact this

theorem rhas_is (x p : Int) (b : Bool) (hb : hasZ (low x) p = b) (w : World) :
    Calls Try.prog 13 #[.int .i64 x, .int .i64 p] w fun e w' => e = .returned (.bool b) ∧ w = w' := by
  have := rhas_any x p w
  rw [hb] at this
  exact this

theorem app_two (l : List UInt8) (b c : UInt8) : (⟨l.toArray⟩ : ByteArray) ++ ((⟨#[b]⟩ : ByteArray) ++ (⟨#[c]⟩ : ByteArray)) = ⟨(l ++ ([b] ++ [c])).toArray⟩ := by
  apply ByteArray.ext
  simp

set_option maxHeartbeats 1000000 in
theorem ranges_any (x : Int) (w : World) :
    Calls Try.prog 24 #[.int .i64 x] w fun e w' => e = .returned (.string (rangesB (low x))) ∧ Below w.heap.size w w' := by
  have hC := Lib.hid (count_any x)
  have hZ := count_zero (low x) (low_lt x)
  obtain ⟨c, hc⟩ : ∃ c, (listI (low x) 8).length = c := ⟨_, rfl⟩
  rw [hc] at hC hZ
  clear hc
  by_cases h0 : c = 0
  · subst h0
    have HT := Lib.hid (rangesB_none (low x) (hZ.1 rfl))
    clear hZ
    go_enter Try.func24, Try.ntmps24
    go_wp2_with fail
    refine (hC.out _).mono ?_; rintro e w' ⟨rfl, rfl⟩
    go_wp2
    go_ret
    exact ⟨by rw [HT.out]; rfl, Below.refl _ _⟩
  · have e0 : ((c : Int) == 0) = false := by simpa using h0
    have HT := Lib.hid (rangesB_some (low x) (fun h => h0 (hZ.2 h)))
    clear hZ h0
    go_enter Try.func24, Try.ntmps24
    go_wp2_with fail
    refine (hC.out _).mono ?_; rintro e w' ⟨rfl, rfl⟩
    go_wp2
    go_loopw [3] (fun v w' => ∃ (k : Nat) (o : ByteArray), k ≤ 8 ∧ w' = w.iter ⟨#[48, 49, 50, 51, 52, 53, 54, 55]⟩ k ∧ v = .string o ∧ o.size ≤ 2 * k ∧ Aside (o.data.toList = rangL (low x) k)) (fun _ w' => 8 - w'.iterPos w.heap.size)
    case atStart => exact ⟨0, ⟨#[]⟩, by omega, rfl, rfl, Nat.le_refl _, rfl⟩
    case round =>
      obtain ⟨k, o, hk, rfl, rfl, ho, HO⟩ := hrel
      by_cases hlt : k < 8
      · have hnx : ∀ ty, (Instr.next (.pointer (some ⟨w.heap.size, 0, none⟩)) true ty).run Try.prog (w.iter ⟨#[48, 49, 50, 51, 52, 53, 54, 55]⟩ k) = _ := fun ty => next_dig w k hlt ty
        have hen := enc_at k hlt
        have HL := Lib.hid (rangL_len (low x) (k + 1))
        have HE := Lib.hid (show rangL (low x) (k + 1) = stepR (low x) k (rangL (low x) k) from rfl)
        have hLs := Lib.hid (fun w => listed_any o ⟨#[dig k]⟩ w (by omega) (by show 1 ≤ 1000; omega))
        have hsz : ¬ (o.size + 2 > 9223372036854775807) := by omega
        cases hb : hasZ (low x) k with
        | false =>
          have hH := Lib.hid (has_is x k false hb)
          have HN := Lib.hid (show o.data.toList = rangL (low x) (k + 1) by rw [HE.out, stepR_off _ _ _ hb, HO.out])
          clear hb
          go_wp2_with fail
          refine (hH.out _).mono ?_; rintro e w' ⟨rfl, rfl⟩
          go_wp2
          go_roundw
          case rel => exact ⟨k + 1, o, by omega, rfl, rfl, by omega, HN.out⟩
          case measure => simp; omega
        | true =>
          have hH := Lib.hid (has_is x k true hb)
          cases hb1 : hasZ (low x) ((k : Int) - 1) with
          | false =>
            have hH1 := Lib.hid (has_is x ((k : Int) - 1) false hb1)
            have HN := Lib.hid (show (⟨(listedL o.data.toList [dig k]).toArray⟩ : ByteArray).data.toList = rangL (low x) (k + 1) by rw [HE.out, stepR_new _ _ _ hb hb1, HO.out])
            have HS := Lib.hid (show (⟨(listedL o.data.toList [dig k]).toArray⟩ : ByteArray).size ≤ 2 * (k + 1) by
              have h1 := HN.out
              have h2 := HL.out
              rw [← h1] at h2
              exact h2)
            clear hb hb1
            go_wp2_with fail
            refine (hH.out _).mono ?_; rintro e w' ⟨rfl, rfl⟩
            go_wp2_with fail
            refine (hH1.out _).mono ?_; rintro e w' ⟨rfl, rfl⟩
            go_wp2_with fail
            refine (hLs.out _).mono ?_; rintro e w' ⟨rfl, rfl⟩
            go_wp2
            go_roundw
            case rel => exact ⟨k + 1, _, by omega, rfl, rfl, HS.out, HN.out⟩
            case measure => simp; omega
          | true =>
            have hH1 := Lib.hid (has_is x ((k : Int) - 1) true hb1)
            cases hb2 : hasZ (low x) ((k : Int) + 1) with
            | false =>
              have hH2 := Lib.hid (has_is x ((k : Int) + 1) false hb2)
              have HN := Lib.hid (show (o ++ ((⟨#[45]⟩ : ByteArray) ++ (⟨#[dig k]⟩ : ByteArray))).data.toList = rangL (low x) (k + 1) by
                rw [HE.out, stepR_last _ _ _ hb hb1 hb2, ← HO.out]
                simp)
              have HS := Lib.hid (show (o ++ ((⟨#[45]⟩ : ByteArray) ++ (⟨#[dig k]⟩ : ByteArray))).size ≤ 2 * (k + 1) by
                have h1 := HN.out
                have h2 := HL.out
                rw [← h1, Array.length_toList] at h2
                exact h2)
              clear hb hb1 hb2
              go_wp2_with fail
              refine (hH.out _).mono ?_; rintro e w' ⟨rfl, rfl⟩
              go_wp2_with fail
              refine (hH1.out _).mono ?_; rintro e w' ⟨rfl, rfl⟩
              go_wp2_with fail
              refine (hH2.out _).mono ?_; rintro e w' ⟨rfl, rfl⟩
              go_wp2
              go_roundw
              case rel => exact ⟨k + 1, _, by omega, rfl, rfl, HS.out, HN.out⟩
              case measure => simp; omega
            | true =>
              have hH2 := Lib.hid (has_is x ((k : Int) + 1) true hb2)
              have HN := Lib.hid (show o.data.toList = rangL (low x) (k + 1) by rw [HE.out, stepR_mid _ _ _ hb hb1 hb2, HO.out])
              clear hb hb1 hb2
              go_wp2_with fail
              refine (hH.out _).mono ?_; rintro e w' ⟨rfl, rfl⟩
              go_wp2_with fail
              refine (hH1.out _).mono ?_; rintro e w' ⟨rfl, rfl⟩
              go_wp2_with fail
              refine (hH2.out _).mono ?_; rintro e w' ⟨rfl, rfl⟩
              go_wp2
              go_roundw
              case rel => exact ⟨k + 1, o, by omega, rfl, rfl, by omega, HN.out⟩
              case measure => simp; omega
      · obtain rfl : k = 8 := by omega
        have hnx : ∀ ty, (Instr.next (.pointer (some ⟨w.heap.size, 0, none⟩)) true ty).run Try.prog (w.iter ⟨#[48, 49, 50, 51, 52, 53, 54, 55]⟩ 8) = _ := fun ty => next_done w ty
        have HF := Lib.hid (show o = ⟨(rangL (low x) 8).toArray⟩ by rw [← HO.out])
        go_wp2
        go_ret
        exact ⟨by rw [HT.out, ← HF.out]; rfl, iter_below _ _ _⟩

end Por
end Go.Proofs.Ytkflphnldnannaa
