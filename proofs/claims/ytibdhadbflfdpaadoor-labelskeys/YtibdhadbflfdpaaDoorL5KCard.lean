/- The law LabelsKeys returns true for every argument, and leaves all as it was, where the program's variables start as its text lays them: the row, and the card that ties the variables to the text. -/
import Derived.Test.YtibdhadbflfdpaaDoorBaseM
import Derived.ArgAppend
import Derived.ChangeMaps5
import Derived.ChangeOld
import Derived.ChangeSlices
import Derived.Deep.AppendLies
import Derived.Deep.Cut
import Derived.Deep.DeepHandedRow
import Derived.Deep.RegionLawGrows
import Derived.Deep.RegionWith
import Derived.Deep.Upon
import Derived.Lib.AppendStr
import Derived.Lib.ConvBytes
import Derived.Lib.LaidTab
import Derived.Lib.SlBytesConst
import Derived.OpenShut
import Derived.ProofKit
import Derived.SizedLaws
import Derived.WalkKit
namespace Go.Proofs.YtibdhadbflfdpaaDoor.LabelsKeysCard
open Go.ChangeShapes Go.WideShapes Go.ChangeAt Go.RowKit
theorem laid_met (os:Os):laidMet Tryd.prog Rows.labelsKeysRow.laid ((laidWorldH os).forCall (fun _ _=>0) ⟨#[],#[.slice none 0 0,.string ⟨#[]⟩,.slice none 0 0,.int .i64 0],[]⟩).memory :=
 laidMet_of_run' 8 (by kernel_rfl) (by kernel_rfl)
theorem reads (os:Os) {H:Type} (enc:TypeId × Value→H):∃ places,DataW.whole enc Tryd.prog ((laidWorldH os).forCall (fun _ _=>0) ⟨#[],#[.slice none 0 0,.string ⟨#[]⟩,.slice none 0 0,.int .i64 0],[]⟩).memory Tryd.f3.params.toList Rows.labelsKeysSpec.vars false #[Value.slice none 0 0,Value.string ⟨#[]⟩,Value.slice none 0 0,Value.int .i64 0].toList 8=some ([.nil,.lit (.string []),.nil,.lit (.int .i64 0)],[],places) :=
 ⟨[],by kernel_rfl⟩
theorem plain (f:FuncId) (fn:Func) (hf:Tryd.pinned.checked.prog.funcNamed "synod/synodlaw15.LabelsKeys" = some f) (hfn:Tryd.pinned.checked.prog.funcs[f]? = some fn) :
 false=Tryd.pinned.checked.prog.looks []∧∀ (j:Nat) t,fn.params[j]? = some t→Tryd.pinned.checked.prog.wantsStandIn t=false:=by
 obtain rfl:f=3:=Option.some.inj ((show Tryd.prog.funcNamed "synod/synodlaw15.LabelsKeys" = some 3 by kernel_rfl).symm.trans hf) |>.symm
 obtain rfl:fn=Tryd.f3:=(Option.some.inj (Tryd.func3.symm.trans hfn)).symm
 refine ⟨by kernel_rfl,fun j t ht => ?_⟩
 rw [Tryd.params3] at ht
 have h:t=22∨t=9∨t=22∨t=3:=by simpa using Array.mem_of_getElem? ht
 rcases h with rfl | rfl | rfl | rfl
 · exact (show Tryd.prog.wantsStandIn 22=false by kernel_rfl)
 · exact (show Tryd.prog.wantsStandIn 9=false by kernel_rfl)
 · exact (show Tryd.prog.wantsStandIn 22=false by kernel_rfl)
 · exact (show Tryd.prog.wantsStandIn 3=false by kernel_rfl)
end Go.Proofs.YtibdhadbflfdpaaDoor.LabelsKeysCard
namespace Go.Proofs.YtibdhadbflfdpaaDoor
theorem labelsKeys_card:Rows.LabelsKeysCardSaid :=
 Claim7.holds_tied_plain_at .later [] _ _ _ _ LabelsKeysCard.said (fun _ h=>by cases h) (by kernel_rfl) (fun _ h=>by cases h) labelsKeys_row_tie rfl ⟨rfl,rfl⟩ (by kernel_rfl) rfl LabelsKeysCard.plain (by kernel_rfl)
end Go.Proofs.YtibdhadbflfdpaaDoor
