/-
  What a port is behind a BPDU (plain).
-/
import Derived.Test.YtmjkhgmdoilpeaaRspNum
namespace Go.Proofs.Ytmjkhgmdoilpeaa
open Go.RowKit
namespace Rsp
open Pre Crd

theorem kept (c : Cd) (b : Bd) (h : ¬ sortI c b = 1) : (recvC c b).v = c.v ∧ (recvC c b).t = c.t ∧ (recvC c b).info = c.info := by
  unfold recvC
  rw [if_neg h]
  split
  · exact ⟨rfl, rfl, rfl⟩
  · split
    · unfold worseC dispC
      split <;> exact ⟨rfl, rfl, rfl⟩
    · split
      · unfold agreeC
        split <;> exact ⟨rfl, rfl, rfl⟩
      · exact ⟨rfl, rfl, rfl⟩

theorem told (c : Cd) (b : Bd) (h : sortI c b = 3) : (recvC c b).tel = true := by
  unfold recvC
  rw [if_neg (by omega), if_neg (by omega), if_pos h]
  unfold worseC dispC
  split <;> rfl

theorem agreed (c : Cd) (b : Bd) (h : (recvC c b).agd = true) (hc : c.agd = false) : c.role = 3 ∧ b.ag = true ∧ sortI c b = 4 := by
  revert h
  unfold recvC
  split
  · intro h; unfold hearC anewC at h; simp at h
  · split
    · intro h; unfold hearC at h; simp [hc] at h
    · split
      · intro h; unfold worseC dispC at h; split at h <;> simp [hc] at h
      · split
        · rename_i h4
          intro h
          unfold agreeC at h
          split at h
          · rename_i k; simp at k; exact ⟨k.2, k.1, h4⟩
          · simp [hc] at h
        · intro h; simp [hc] at h

theorem anew_off (c : Cd) (b : Bd) (h : sortI c b = 1) : (recvC c b).agd = false := by
  unfold recvC
  rw [if_pos h]
  unfold hearC anewC
  rfl

/-- What a designated port tells, heard where nothing is known. -/
theorem hears_sort (c d : Cd) (h1 : c.rap = true) (h2 : c.role = 3) (h3 : d.info = 0) : sortI d (msgB c) = 1 := by
  have hm : (msgB c).k = 2 ∧ (msgB c).ro = c.role := by unfold msgB; rw [if_pos h1]; exact ⟨rfl, rfl⟩
  have hr : roleI (msgB c) = 3 := by unfold roleI rapB; rw [hm.1, hm.2, h2]; rfl
  unfold sortI sortD
  rw [if_pos hr, if_neg (by unfold repB; rw [h3]; simp), if_pos (by unfold replB; rw [if_pos h3])]

theorem hears_v (c d : Cd) (h : sortI d (msgB c) = 1) : (recvC d (msgB c)).v = c.v ∧ (recvC d (msgB c)).t = oldT c.t ∧ (recvC d (msgB c)).info = (if goodI (msgB c) = 0 then 0 else 2) ∧ (recvC d (msgB c)).hrd = goodI (msgB c) ∧ (recvC d (msgB c)).prd = (rapB (msgB c) && (msgB c).pr) := by
  have e : (msgB c).v = c.v ∧ (msgB c).t = c.t := by unfold msgB; split <;> exact ⟨rfl, rfl⟩
  unfold recvC
  rw [if_pos h]
  unfold hearC anewC
  exact ⟨e.1, by rw [← e.2], rfl, rfl, by simp⟩

theorem msg_t (c : Cd) : (msgB c).t = c.t ∧ (msgB c).v = c.v := by unfold msgB; split <;> exact ⟨rfl, rfl⟩

theorem hears_again (c d : Cd) (h1 : c.rap = true) (h2 : c.role = 3) (h : sortI d (msgB c) = 1) (hg : ¬ goodI (msgB c) = 0) : sortI (recvC d (msgB c)) (msgB c) = 2 ∧ recvC (recvC d (msgB c)) (msgB c) = recvC d (msgB c) := by
  obtain ⟨e1, e2, e3, e4, e5⟩ := hears_v c d h
  obtain ⟨t1, t2⟩ := msg_t c
  rw [if_neg hg] at e3
  have hm : (msgB c).k = 2 ∧ (msgB c).ro = c.role := by unfold msgB; rw [if_pos h1]; exact ⟨rfl, rfl⟩
  have hr : roleI (msgB c) = 3 := by unfold roleI rapB; rw [hm.1, hm.2, h2]; rfl
  have hs : sortI (recvC d (msgB c)) (msgB c) = 2 := by
    unfold sortI sortD
    rw [if_pos hr, if_pos]
    unfold repB
    rw [e1, e2, e3, t1, t2]
    simp
  refine ⟨hs, ?_⟩
  generalize recvC d (msgB c) = x at *
  unfold recvC
  rw [if_neg (by omega), if_pos hs]
  unfold hearC
  rw [← e4, ← e5]
  simp

end Rsp
end Go.Proofs.Ytmjkhgmdoilpeaa
