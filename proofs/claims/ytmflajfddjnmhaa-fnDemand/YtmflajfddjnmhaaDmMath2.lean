/-
  What the law FnDemand asks of demand, in plain numbers: a longer forecast is no less; what lacks is no surplus, and with it nothing lacks; a steady demand is forecast as it is.
-/
import Derived.Test.YtmflajfddjnmhaaDmMath
namespace Go.Proofs.Ytmflajfddjnmhaa
namespace Mth

theorem most_mono {a b : Int} (h : a ≤ b) : most a ≤ most b := by
  unfold most
  split <;> split <;> omega
theorem fore_eq {d : Dm} {t : Int} (h : 0 ≤ d.fore t) : d.Ok ∧ Inn t 0 1000 ∧ d.fore t = most ((d.A * t + 15) / 16) := by
  unfold Dm.fore at *
  split at h
  · rename_i g
    exact ⟨g.1, g.2, if_pos g⟩
  · omega
theorem fore_mono {d : Dm} {l h : Int} (hl : 0 ≤ d.fore l) (hh : 0 ≤ d.fore h) (hlh : l ≤ h) : d.fore l ≤ d.fore h := by
  obtain ⟨ok, _, e1⟩ := fore_eq hl
  obtain ⟨_, _, e2⟩ := fore_eq hh
  rw [e1, e2]
  have h1 : d.A * l ≤ d.A * h := Int.mul_le_mul_of_nonneg_left hlh ok.1.1
  exact most_mono (by omega)
/-- Where something lacks: what it is. -/
theorem lack_pos {d : Dm} {f l h : Int} (hp : 0 < d.lack f l h) : 0 ≤ d.fore l ∧ 0 ≤ d.fore h ∧ l ≤ h ∧ Inn f 0 1000000000 ∧ f < d.fore l ∧ f ≤ d.fore h ∧ d.lack f l h = d.fore h - f := by
  unfold Dm.lack at *
  split at hp
  · omega
  · rename_i g1
    split at hp
    · omega
    · rename_i g2
      rw [if_neg g1, if_neg g2]
      have q : Inn f 0 1000000000 := Decidable.not_not.1 (fun x => g1 (.inr (.inr (.inr x))))
      refine ⟨?_, ?_, ?_, q, ?_, ?_, rfl⟩ <;> omega
theorem lack_over {d : Dm} {f l h : Int} (hp : 0 < d.lack f l h) : ¬ 0 < d.over f h := by
  obtain ⟨h1, h2, h3, h4, h5, h6, h7⟩ := lack_pos hp
  have h8 := fore_mono h1 h2 h3
  unfold Dm.over
  split
  · omega
  · split <;> omega
theorem lack_again {d : Dm} {f l h : Int} (hp : 0 < d.lack f l h) : f + d.lack f l h ≤ 1000000000 ∧ d.lack (f + d.lack f l h) l h = 0 := by
  obtain ⟨h1, h2, h3, h4, h5, h6, h7⟩ := lack_pos hp
  have h8 := fore_mono h1 h2 h3
  have h9 := fore_bound d h
  rw [h7, show f + (d.fore h - f) = d.fore h by omega]
  refine ⟨h9.2, ?_⟩
  unfold Dm.lack
  rw [if_neg (by rintro (x | x | x | x) <;> first | omega | exact x ⟨by omega, by omega⟩), if_pos (.inl h8)]

/-- A steady demand behind some ticks. -/
def steady (m : Int) (k : Nat) : Dm := if k = 0 then ⟨0, 0, 0⟩ else ⟨256 * m, k, 0⟩
theorem steady_step {m : Int} {k : Nat} (h0 : 0 ≤ m) (h1 : m ≤ 255) (hk : k ≤ 100) : ((steady m k).ask (16 * m)).tick = steady m (k + 1) := by
  have hr : steady m (k + 1) = ⟨256 * m, ((k + 1 : Nat) : Int), 0⟩ := if_neg (by omega)
  have hs : (steady m k).A = (if k = 0 then 0 else 256 * m) ∧ (steady m k).C = k ∧ (steady m k).O = 0 := by
    unfold steady
    by_cases hz : k = 0
    · rw [if_pos hz, if_pos hz]
      exact ⟨rfl, by dsimp only; omega, rfl⟩
    · rw [if_neg hz, if_neg hz]
      exact ⟨rfl, rfl, rfl⟩
  obtain ⟨e1, e2, e3⟩ := hs
  generalize steady m k = s at *
  obtain ⟨A, C, O⟩ := s
  dsimp only at e1 e2 e3
  subst e2 e3
  have hA : 0 ≤ A ∧ A ≤ 65280 := by
    rw [e1]
    split <;> omega
  have ha : Dm.ask ⟨A, k, 0⟩ (16 * m) = ⟨A, k, 16 * m⟩ := by
    unfold Dm.ask
    rw [if_pos ⟨⟨⟨by dsimp only; omega, by dsimp only; omega⟩, ⟨by dsimp only; omega, by dsimp only; omega⟩, ⟨by dsimp only; omega, by dsimp only; omega⟩⟩, ⟨by omega, by omega⟩⟩]
    dsimp only
    rw [show most (0 + 16 * m) = 16 * m by unfold most; split <;> omega]
  have ht : Dm.tick ⟨A, k, 16 * m⟩ = ⟨if (k : Int) = 0 then 16 * (16 * m) else A - A / 16 + 16 * m, most (k + 1), 0⟩ := by
    unfold Dm.tick
    rw [if_pos ⟨⟨by dsimp only; omega, by dsimp only; omega⟩, ⟨by dsimp only; omega, by dsimp only; omega⟩, ⟨by dsimp only; omega, by dsimp only; omega⟩⟩]
  rw [ha, ht, hr, show most ((k : Int) + 1) = ((k + 1 : Nat) : Int) by unfold most; split <;> omega]
  congr 1
  by_cases hz : k = 0
  · rw [if_pos (by omega)]; omega
  · rw [if_neg (by omega), e1, if_neg hz]; omega
theorem steady_fore {m : Int} {k : Nat} (h0 : 0 ≤ m) (h1 : m ≤ 255) (hk : k ≤ 100) (hp : 0 < k) : (steady m k).fore 3 = 48 * m := by
  have hs : steady m k = ⟨256 * m, k, 0⟩ := if_neg (by omega)
  rw [hs]
  unfold Dm.fore
  rw [if_pos ⟨⟨⟨by dsimp only; omega, by dsimp only; omega⟩, ⟨by dsimp only; omega, by dsimp only; omega⟩, ⟨by dsimp only; omega, by dsimp only; omega⟩⟩, ⟨by omega, by omega⟩⟩]
  dsimp only
  unfold most
  split <;> omega
end Mth
end Go.Proofs.Ytmflajfddjnmhaa
