/-
  The program's framed and Frame.
-/
import Derived.Test.YtiinpdkgnflmeaaMgPut
import Derived.Test.YtiinpdkgnflmeaaMgFrS
import Derived.Test.YtiinpdkgnflmeaaMix
namespace Go.Proofs.Ytiinpdkgnflmeaa
open Go.RowKit
open Mth

set_option maxRecDepth 100000 in
set_option maxHeartbeats 2000000 in
theorem framed (s : ByteArray) (hs : s.size ≤ maxLen) (w : World) : Calls Try.prog 26 #[.string s] w fun e w' => e = .returned (.string (frameT s)) ∧ Below w.heap.size w w' := by
  unfold frameT
  have hn := sumN_lt s
  have HS := hide (fun w1 => sumBytes s hs w1)
  have HP := hide (fun w1 => implPutTAny s w1)
  have hp := putT_size s
  have HCV := hide (fun w1 g => conv_four w1 g (sumN s) 4 hn)
  have hw := wordB_size (sumN s)
  generalize sumN s = n at *
  generalize putT s = bT at *
  generalize wordB n = bW at *
  have HA := hide (fun w1 => run_string_add_sum (P := Try.prog) w1 bW bT (by omega))
  clear hn hp hw hs
  go_enter Try.func26, Try.ntmps26
  go_upto_region 1 with fail
  refine wp_region_mix (by kernel_rfl) ?_
  show wpMix _ _ _ _ 7 (Array.replicate 7 false) _ _
  refine wpMix_take 0 rfl (by kernel_rfl) (by kernel_rfl) (by kernel_rfl) (fun _ _ _ _ h => h) (fun K hK => ?_)
  go_simp
  first
    | (refine hK _ ?_; clear hK K)
    | (apply Exists.intro
       refine ⟨fun _ => ?_, hK _ ?_⟩
       (fail)
       clear hK K)
  refine wpMix_take 3 rfl (by kernel_rfl) (by kernel_rfl) (by kernel_rfl) (fun _ _ _ _ h => h) (fun K hK => ?_)
  go_simp
  first
    | (refine hK _ ?_; clear hK K)
    | (apply Exists.intro
       refine ⟨fun _ => ?_, hK _ ?_⟩
       (fail)
       clear hK K)
  refine wpMix_one 1 rfl (by kernel_rfl) (by rfl) (fun x hx => ?_)
  go_simp
  refine (unhide HS _).mono ?_
  rintro e y ⟨g, rfl, hg, hblk, hby⟩
  refine ⟨hby, ?_⟩
  have HBY := hide (Ge.trans hx hby)
  have hgy := blk_lt hblk
  obtain ⟨c0, c1, c2, c3⟩ := cells4 hblk
  have hcv := fun d os => unhide HCV (Sort.grow (redrawn y d) os) g (cell_regrown c0 d os) (cell_regrown c1 d os) (cell_regrown c2 d os) (cell_regrown c3 d os)
  have a1 := unhide HA
  clear hx hby hblk c0 c1 c2 c3 HCV HA hg HS
  refine wpMix_take 4 rfl (by kernel_rfl) (by kernel_rfl) (by kernel_rfl) (fun _ _ _ _ h => h) (fun K hK => ?_)
  go_simp
  first
    | (refine hK _ ?_; clear hK K)
    | (apply Exists.intro
       refine ⟨fun _ => ?_, hK _ ?_⟩
       (exact unhide HP _)
       clear hK K)
  refine wpMix_take 2 rfl (by kernel_rfl) (by kernel_rfl) (by kernel_rfl) (fun _ _ _ _ h => h) (fun K hK => ?_)
  go_simp
  first
    | (refine hK _ ?_; clear hK K)
    | (apply Exists.intro
       refine ⟨fun _ => ?_, hK _ ?_⟩
       (fail)
       clear hK K)
  refine wpMix_take 5 rfl (by kernel_rfl) (by kernel_rfl) (by kernel_rfl) (fun _ _ _ _ h => h) (fun K hK => ?_)
  go_simp
  first
    | (refine hK _ ?_; clear hK K)
    | (apply Exists.intro
       refine ⟨fun _ => ?_, hK _ ?_⟩
       (fail)
       clear hK K)
  refine wpMix_take 6 rfl (by kernel_rfl) (by kernel_rfl) (by kernel_rfl) (fun _ _ _ _ h => h) (fun K hK => ?_)
  go_simp
  first
    | (refine hK _ ?_; clear hK K)
    | (apply Exists.intro
       refine ⟨fun _ => ?_, hK _ ?_⟩
       (fail)
       clear hK K)
  refine wpMix_done (by kernel_rfl) (fun z hz => ?_)
  have HBZ := hide (Ge.trans (unhide HBY) hz)
  clear hz HBY hcv a1
  go_simp
  go_wp2_with fail
  go_ret
  exact ⟨rfl, unhide HBZ⟩

end Go.Proofs.Ytiinpdkgnflmeaa
