/- What pad, Hmac and Extract of the reference of layer 2 do in the model. -/
import Derived.Test.YtbbikhlbkpjpjaaGreatDoorHBlockM
import Derived.Test.YtbbikhlbkpjpjaaGreatDoorHEngM
import Derived.Test.YtbbikhlbkpjpjaaGreatDoorHRefSmallM
import Derived.Test.YtbbikhlbkpjpjaaGreatDoorHWriteCM
import Derived.ArgAppend
import Derived.Deep.AppendLies
import Derived.Deep.Cut
import Derived.Deep.RegionLawGrows
import Derived.Deep.RegionWith
import Derived.Deep.Upon
namespace Go.Proofs.YtbbikhlbkpjpjaaGreatDoor
open Go.RowKit
theorem Own.stored {base:Nat} {w:World} {g n cap:Nat} {X:Nat→Nat} (h:Own base w (.slice (some ⟨g,0,none⟩) n cap) n X) (i:Nat) (v:Int) (u:Nat) (hu:v=(u:Int)):Own base (w.setCell ⟨g,i,none⟩ (.int .u8 v)) (.slice (some ⟨g,0,none⟩) n cap) n (upd X i u):=by
 have h1:=World.ownsRow.stored h i (.int .u8 v)
 unfold Own
 have e:(ints .u8 n X).set i (.int .u8 v)=ints .u8 n (upd X i u):=by
  apply List.ext_getElem?
  intro j
  by_cases hj:j<n
  · rw [ints_at _ _ _ j hj,List.getElem?_set]
    by_cases e:i=j
    · subst e;simp [ints_len,hj,upd,hu]
    · simp only [e,if_false]
      rw [ints_at _ _ _ j hj]
      simp [upd,show ¬j=i from fun h=>e h.symm]
  · rw [List.getElem?_eq_none (by rw [List.length_set,ints_len];omega),List.getElem?_eq_none (by rw [ints_len];omega)]
 rw [←e]
 exact h1.1
theorem Own.bytesIn {base:Nat} {w:World} {v:Value} {n:Nat} {X:Nat→Nat} (h:Own base w v n X):BytesIn w v n X:=by
 rcases h.form with ⟨rfl,h0⟩ | ⟨g,cap,rfl,_,hg,hc,hr⟩
 · exact .inl ⟨none,rfl,h0⟩
 · exact .inr ⟨g,0,cap,rfl,hg,hc,fun j hj=>(hr j hj).1⟩
theorem Own.lower {base base':Nat} {w:World} {v:Value} {n:Nat} {X:Nat→Nat} (h:Own base w v n X) (hb:base'≤base):Own base' w v n X:=World.ownsRow.mono h hb
end Go.Proofs.YtbbikhlbkpjpjaaGreatDoor
