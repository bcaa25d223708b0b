/- Ratio of the reference by numbers. -/
import Derived.Test.YtibdhadbflfdpaaGreatDoorPtBM
import Derived.Test.YtibdhadbflfdpaaGreatDoorRRatioM
import Derived.Test.YtibdhadbflfdpaaGreatDoorRootQAM
namespace Go.Proofs.YtibdhadbflfdpaaGreatDoor
open Go.RowKit
theorem CI (a e:Nat) (h:pF - 2=e):a ^ e%pF=de a%pF:=by unfold de;rw [h,Nat.mod_mod]
theorem wO (k u v e:Nat) (h:k+1=e):gL u v ^ e%pF=dv k u v%pF:=by unfold dv;rw [h,Nat.mod_mod]
theorem DV (u v:Nat):gL u v<pF:=Nat.mod_lt _ db
theorem uK (k u v:Nat):dv k u v<pF:=Nat.mod_lt _ db
theorem tN (k u v:Nat):fw k u v<pF:=by
 unfold fw
 split
 · exact uK k u v
 · exact Nat.mod_lt _ db
theorem zx (A B C:Prop) [Decidable A] [Decidable B] [Decidable C] (x:Nat):(decide A && !(decide B && !decide C))=(if A∧¬(B∧¬C) then some x else none:Option Nat).isSome∧(if (decide A && !(decide B && !decide C))=true then x else 0)=(if A∧¬(B∧¬C) then some x else none:Option Nat).getD 0:=by
 by_cases hA:A <;> by_cases hB:B <;> by_cases hC:C <;> simp [hA,hB,hC]
theorem Rep.far' {L:Nat→Int} {x:Nat} (h:Rep L x):∀ j,j<16→-1073741824≤L j∧L j≤1073741824:=fun j hj=>by have:=h.bd j hj;omega
theorem jR {A B:Nat→Int} {a b:Nat} (hA:Rw A a) (hB:Rw B b) (z:Bool) (hz:decide (a%pF=b%pF)=z) (w:World):Calls Tryz.prog 124 #[.agg (af 16 A).toArray,.agg (af 16 B).toArray] w fun e w'=>e = .returned (.bool z)∧Below w.heap.size w w':=by
 have h:=qI A B a b (fun W=>og A (hA.dig.mono (by decide)) a hA.val W) (fun W=>og B (hB.dig.mono (by decide)) b hB.val W) w;rw [hz] at h;exact h
theorem uD (U V:Nat→Int) (u v:Nat) (hU:Rw U u) (hV:Rw V v) (hu:u<pF) (hv:v<pF) (w:World) :
 Calls Tryz.prog 121 #[rV U,rV V] w fun e w'=>∃ R,e = .returned (.tuple #[rV R,.bool (eE kP u v).isSome])∧Rw R ((eE kP u v).getD 0)∧Below w.heap.size w w':=by
 obtain ⟨kk,hkk⟩:∃ kk,kP=kk:=⟨_,rfl⟩
 obtain ⟨E1,hE1⟩:∃ E:Nat,57896044618658097711785492504343953926634992332820282019728792003956564819947=E:=⟨_,rfl⟩
 obtain ⟨E2,hE2⟩:∃ E:Nat,7237005577332262213973186563042994240829374041602535252466099000494570602494=E:=⟨_,rfl⟩
 have e1:pF - 2=E1:=by rw [←hE1];decide
 have e2:kk+1=E2:=by rw [←hE2,←hkk];decide
 have cI:∀ W,Calls Tryz.prog 126 #[bZ V] W fun e w'=>∃ R,e = .returned (bZ R)∧Rep R (v ^ E1)∧Below W.heap.size W w':=fun W=>by rw [←hE1];exact li V v hV.bd (fun M m h=>(je h.wide hV).cast (by unfold av;rw [Nat.mod_mod])) W
 have cP:∀ (Q:Nat→Int) (q:Nat),Rep Q q→∀ W,Calls Tryz.prog 179 #[bZ Q,.int .i64 252,.int .i64 14,.int .i64 4] W fun e w'=>∃ R,e = .returned (bZ R)∧Rep R (q ^ E2)∧Below W.heap.size W w':=fun Q q hQ W=>by rw [←hE2];exact AN Q q hQ W
 clear hE1 hE2;have hq:gL u v=av u (de v):=rfl;have hql:=DV u v;have hyl:=uK kk u v;have hzl:=tN kk u v
 have hzd:fw kk u v=if dv kk u v*dv kk u v%pF=gL u v then dv kk u v else dv kk u v*iM%pF:=rfl
 have hRd:eE kk u v=if fw kk u v*fw kk u v%pF=gL u v∧¬(v=0∧u≠0) then some (me (fw kk u v)) else none:=rfl
 have hyc:=wO kk u v E2 e2;rw [hkk,hRd];clear hRd;generalize fw kk u v=z at *;generalize dv kk u v=y at *;generalize hqq:gL u v=q at *
 have h:=vZ U V (de v) q y z (av z z) z (cj 0 z) (decide (av z z=q)) (decide (v=0)) (decide (u=0))
  (fun W=>(cI W).mono fun e w' ⟨R,he,hR,hb⟩=>⟨R,he,hR.cast (CI v E1 e1),hb⟩)
  (fun R hR W=>(cZ U R hU.bd hR.bd W).mono fun e w' ⟨he,hb⟩=>⟨_,he,by rw [hq];exact je hU hR.wide,hb⟩)
  (fun Q hQ W=>(cP Q q hQ W).mono fun e w' ⟨R,he,hR,hb⟩=>⟨R,he,hR.cast hyc,hb⟩)
  (fun Y Q hY hQ W=>by
    by_cases h:y*y%pF=q
    · rw [if_pos h] at hzd
      rw [hzd]
      exact (CU Y Q y q hY hQ (by rw [h,Nat.mod_eq_of_lt hql]) W).mono fun e w' ⟨he,hb⟩=>⟨Y,he,hY,hb⟩
    · rw [if_neg h] at hzd
      rw [hzd]
      exact (ES Y Q y q hY hQ (by rw [Nat.mod_eq_of_lt hql];exact h) W).mono fun e w' ⟨R,he,hR,hb⟩=>⟨R,he,hR.cast (by rw [Nat.mod_mod]),hb⟩)
  (fun Z hZ W=>(cZ Z Z hZ.bd hZ.bd W).mono fun e w' ⟨he,hb⟩=>⟨_,he,je hZ.wide hZ.wide,hb⟩)
  (fun R Q hR hQ W=>ma hR hQ _ (by rw [Nat.mod_eq_of_lt (aJ z z),Nat.mod_eq_of_lt hql]) W)
  (fun W=>o7 0 (by decide) W)
  (fun O hO W=>jR hV hO.wide _ (by rw [Nat.mod_eq_of_lt hv];rfl) W)
  (fun O hO W=>jR hU hO.wide _ (by rw [Nat.mod_eq_of_lt hu];rfl) W)
  (fun Z hZ W=>(lP Z z hZ W).mono fun e w' ⟨s,he,hs,hb⟩=>⟨s,he,by rw [Nat.mod_eq_of_lt hzl] at hs;exact ae.of_own hs,hb⟩)
  (fun O Z hO hZ W=>(nN O Z hO.far' hZ.far' W).mono fun e w' ⟨he,hb⟩=>⟨_,he,Ar hO hZ hzl,hb⟩) w
 have hf:av z z=z*z%pF:=rfl;have hev:(if z%2=1 then cj 0 z else z)=me z:=rfl;rw [hf,hev] at h;clear cI cP hzd hyc hf hev;generalize z*z%pF=m at *;generalize me z=ev at *;have ho:=zx (m=q) (v=0) (u=0) ev
 refine h.mono fun e w' ⟨R,he,hR,hb⟩=>⟨R,?_,?_,hb⟩
 · rw [he,ho.1]
 · rw [ho.2] at hR
   exact hR
end Go.Proofs.YtibdhadbflfdpaaGreatDoor
