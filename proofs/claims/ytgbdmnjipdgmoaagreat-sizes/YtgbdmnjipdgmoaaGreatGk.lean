/-
  OUR OWN: what is lent: far, lentPrefixes, wholePrefixes.
-/
import Derived.Test.YtgbdmnjipdgmoaaGreatGj
import Derived.Test.YtgbdmnjipdgmoaaGreatGg
import Derived.Deep.OwnRows
import Derived.Laws.ResultCell
namespace Go.Proofs.YtgbdmnjipdgmoaaGreat
open Go.RowKit

theorem buildPfx (a b : Int) (w : World) : (Instr.build 63 #[(0, .int .i64 a), (1, .int .i64 b)]).run Tryz.prog w = .ok (.agg #[.int .i64 a, .int .i64 b]) w := run_build w 63 _ _ (by kernel_rfl)
theorem buildPlc (a b c : Int) (w : World) : (Instr.build 65 #[(0, .agg #[.int .i64 a, .int .i64 b]), (1, .int .i64 c)]).run Tryz.prog w = .ok (.agg #[.int .i64 a, .int .i64 b, .int .i64 c]) w := run_build w 65 _ _ (by kernel_rfl)

set_option maxHeartbeats 400000 in
theorem far_any (w : World) :
    Calls Tryz.prog 54 #[] w fun e w' => e = .returned (.agg #[.int .i64 77, .int .i64 77, .int .i64 77]) ∧ Below w.heap.size w w' := by
  have h1 := fun w => buildPfx 77 77 w
  have h2 := fun w => buildPlc 77 77 77 w
  go_enter Tryz.func54, Tryz.ntmps54
  go_wp2
  exact bodyPost_ret (v := .agg #[.int .i64 77, .int .i64 77, .int .i64 77]) (by simp [results, Tryz.results54, go_sem]) rfl ⟨rfl, (by repeat (first | exact Below.refl _ _ | refine Below.alloc ?_ (by simp) _ | refine Below.setCell ?_ (by simp) _))⟩
end Go.Proofs.YtgbdmnjipdgmoaaGreat
