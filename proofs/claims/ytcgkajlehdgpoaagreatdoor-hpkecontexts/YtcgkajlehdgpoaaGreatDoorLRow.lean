/- Rows of cells in memory: those of numbers, of ratios and of pairs; and a region's end as a cut. -/
import Derived.Test.YtcgkajlehdgpoaaGreatDoorLentM
import Derived.Test.YtcgkajlehdgpoaaGreatDoorThenM
namespace Go.Proofs.YtcgkajlehdgpoaaGreatDoor
open Go.RowKit
def c4 (n:Nat):List Value:=[.int .u64 (lw n 0),.int .u64 (lw n 1),.int .u64 (lw n 2),.int .u64 (lw n 3)]
def c8 (x z:Nat):List Value:=c4 x ++ c4 z
def ratV (x z:Nat):Value := .agg (c8 x z).toArray
theorem c4_zero:c4 0=[.int .u64 0,.int .u64 0,.int .u64 0,.int .u64 0]:=by kernel_rfl
theorem fresh4 (w:World):∃ w' g,w.alloc (.cells #[.int .u64 0,.int .u64 0,.int .u64 0,.int .u64 0] 88)=w'∧w.heap.size=g∧Below w.heap.size w w'∧RW w' g 0 (c4 0):=by
 refine ⟨_,_,rfl,rfl,(Below.refl _ _).alloc (Nat.le_refl _) _,?_⟩
 rw [c4_zero];exact RW.fresh w _ _
theorem info4:(Tryz.prog.info? 88).map (·.size)=some 4:=by kernel_rfl
theorem info8:(Tryz.prog.info? 146).map (·.size)=some 8:=by kernel_rfl
theorem one4 (n:Nat):(c4 n).toArray.all (·.oneCell')=true:=by simp [c4,Value.oneCell']
theorem one8 (x z:Nat):(c8 x z).toArray.all (·.oneCell')=true:=by simp [c8,c4,Value.oneCell']
end Go.Proofs.YtcgkajlehdgpoaaGreatDoor
