/- A region that draws its order, inside a round of a range over a function: by the laws for plain ones; loads and stores that are the only ones to come up. -/
import Derived.Test.YtbbikhlbkpjpjaaGreatDoorR7AM
import Derived.Test.YtbbikhlbkpjpjaaGreatDoorR8TM
namespace Go.Proofs.YtbbikhlbkpjpjaaGreatDoor
open Go.RowKit Go.Shelf
def OnlyN (Q:Exit→Act→World→Prop):Exit→Act→World→Prop
 | .normal,a,w=>Q .normal a w
 | _,_,_=>False
theorem OnlyN.normal {Q:Exit→Act→World→Prop} {a:Act} {w:World} (h:Q .normal a w):OnlyN Q .normal a w:=h
theorem OnlyN.imp {Q:Exit→Act→World→Prop}:∀ (e:Exit) (a:Act) (w:World),OnlyN Q e a w→Q e a w:=fun e a w h=>by
 cases e <;> first | exact h | exact (h:False).elim
theorem OnlyN.stays {Q:Exit→Act→World→Prop}:¬LetsOut (OnlyN Q):=fun ⟨_,_,h⟩=>h
def noDefer (ops:Array Oper):Bool:=ops.toList.all fun o=>match o.op with | .defer _=>false | _=>true
section
variable {P:Program} {md:Region.Mode} {ops:Array Oper} {Q:Exit→Act→World→Prop} {S:World→Prop} {fuel:Nat} {listed:Array Bool} {a:Act} {w:World}
theorem upon_in {l n:Nat} {o:Oper} {K:Act→World→Prop}:∀ {r:Result Next},o.upon P a K Q r→o.uponIn (Fence.wide.inRound l) n P a K Q r
 | .ok (.value _) _,h=>h
 | .ok .skip _,h=>h
 | .ok (.defer _) _,h=>h
 | .ok (.enter _ _) _,h=>⟨(fun hd=>by cases hd),CallsIn.inRound l (callsIn_wide.2 h)⟩
 | .ok (.row _ _) _,h=>⟨(fun hd=>by cases hd),fun c cs _=>let ⟨v,w',r,s⟩:=h c cs;⟨v,w',r,stepsIn_wide.2 s⟩⟩
 | .ok (.round ..) _,h=>(h:False).elim
 | .halt (.panic _) _,h=>h
theorem any_in {l n:Nat} (hd:noDefer ops=true) (hQ:¬LetsOut Q):∀ (fuel:Nat) (listed:Array Bool) (a:Act) (w:World),wpAny P md ops Q fuel listed a w→wpAnyIn (Fence.wide.inRound l) n P md ops Q fuel listed a w
 | 0,_,_,_,h=>h
 | fuel+1,listed,a,w,h=>⟨h.1,fun i hi=>by
  have hi':=h.2 i hi
  unfold wpOp at hi'
  unfold wpOpIn
  split
  · rename_i heq
    rw [heq] at hi'
    exact any_in hd hQ fuel _ a w hi'
  · rename_i o heq
    rw [heq] at hi'
    dsimp only at hi'
    split
    · rename_i hw
      rw [if_pos hw] at hi'
      have h1:=hi'.resolve_right fun h=>hQ h.2
      refine ⟨fun _ _=>trivial,?_⟩
      have hnd:∀ c,o.op ≠ .defer c:=fun c e=>by
       have hm:o∈ops.toList:=by
        rw [←Array.getElem?_toList] at heq
        exact List.mem_of_getElem? heq
       have:=List.all_eq_true.1 hd o hm
       rw [e] at this
       cases this
      rw [Oper.semAt_plain (Fence.wide.inRound l) _ o hnd]
      exact upon_in (Oper.wp_mono (fun a w h=>any_in hd hQ fuel _ a w h) h1)
    · rename_i hw
      rw [if_neg hw] at hi'
      exact ⟨fun _ _=>trivial,any_in hd hQ fuel _ _ w hi'⟩⟩
theorem wpIn_held {l n id:Nat} (hm:P.follows .mixedOrders=true) (hd:noDefer ops=true) (hS:S w.drew) (h:S w.drew→wpAnyH P .any ops (OnlyN Q) S ops.size (Array.replicate ops.size false) a w.drew):(Code.region id ops true).wpIn (Fence.wide.inRound l) n P Q a w :=
 wpIn_mono (wpIn_region_any hm (any_in hd OnlyN.stays _ _ _ _ (wpAny_of_held _ _ _ _ (h hS)))) OnlyN.imp
theorem lo (i:Nat) {oi:Oper} (ty k:Nat) {g off:Nat} {cs:List Value} {d:TypeDesc} (r:RW w g off cs) (hS:S w) (hu:P.underlying ty=some d) (hin:(P.info? ty).map (·.size)=some cs.length) (h:wpAnyH P md ops Q S fuel (listed.setIfInBounds i true) (a.put oi.dst (.agg cs.toArray)) w)
 (hi:ops.toList[i]? = some oi:=by rfl) (hr:Region.ready md ops listed=[i]:=by kernel_rfl) (hd:d.isRow=true:=by rfl) (ho:oi.op = .load ty (.tmp k):=by rfl) (hx:a.eval (.tmp k) = .pointer (some ⟨g,off,none⟩):=by rfl) (hw:Region.wanted oi (yielded ops a.tmps)=true:=by rfl):wpAnyH P md ops Q S (fuel+1) listed a w :=
 wpAnyH_ready hr (by simp) (aL oi ty k r hS hu hin h AllReadyH.nil hd ho hx (at_list hi) hw)
theorem so (i:Nat) {oi:Oper} (ty x y:Nat) {g off:Nat} {cs:List Value} (ds:List Value) (r:RW w g off cs) (hl:ds.length=cs.length) (hk:S (w.setCells g off ds)) (hin:(P.info? ty).map (·.size)=some ds.toArray.size) (h1:ds.toArray.all (·.oneCell')=true) (h:RW (w.setCells g off ds) g off ds→wpAnyH P md ops Q S fuel (listed.setIfInBounds i true) (a.put oi.dst undef) (w.setCells g off ds))
 (hi:ops.toList[i]? = some oi:=by rfl) (hr:Region.ready md ops listed=[i]:=by kernel_rfl) (ho:oi.op = .store ty (.tmp x) (.tmp y):=by rfl) (hx:a.eval (.tmp x) = .pointer (some ⟨g,off,none⟩):=by rfl) (hy:a.eval (.tmp y) = .agg ds.toArray:=by rfl) (hw:Region.wanted oi (yielded ops a.tmps)=true:=by rfl):wpAnyH P md ops Q S (fuel+1) listed a w :=
 wpAnyH_ready hr (by simp) (aT oi ty x y ds r hl hk hin h1 h AllReadyH.nil ho hx hy (at_list hi) hw)
end
end Go.Proofs.YtbbikhlbkpjpjaaGreatDoor
