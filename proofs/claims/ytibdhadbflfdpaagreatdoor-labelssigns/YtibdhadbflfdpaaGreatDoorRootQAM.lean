/- What the proof stands on: RootQA, PtD7, SqMath. -/
import Derived.Test.YtibdhadbflfdpaaGreatDoorNNumM
import Derived.Test.YtibdhadbflfdpaaGreatDoorPNumM
import Derived.Test.YtibdhadbflfdpaaGreatDoorPtBM
import Derived.Test.YtibdhadbflfdpaaGreatDoorRootQ
namespace Go.Proofs.YtibdhadbflfdpaaGreatDoor
open Go.RowKit
theorem E4 (n:Nat):lw n 0%2=n%2:=by unfold lw;simp only [Nat.pow_zero,Nat.div_one];omega
theorem qu (a:Nat) (ha:a<18446744073709551616):(BitVec.ofInt 64 (a:Int)).toNat=a:=by
 rw [BitVec.toNat_ofInt];omega
theorem BZ (a:Nat) (ha:a<18446744073709551616):bits .and .u64 (a:Int) 1=((a%2:Nat):Int):=by
 have hx:a &&& 1≤a:=Nat.and_le_left;show IntKind.u64.wrap ((BitVec.ofInt 64 (a:Int) &&& BitVec.ofInt 64 ((1:Nat):Int)).toNat:Int)=_;rw [BitVec.toNat_and,qu a ha,qu 1 (by decide),IntKind.wrap_u64,←Nat.and_one_is_mod];omega
set_option maxRecDepth 20000 in
theorem Ee (n:Nat) (w:World):Calls Tryz.prog 251 #[ag n] w fun e w'=>e = .returned (.bool (n%2 == 1))∧Below w.heap.size w w':=by
 have e1:=BZ (lw n 0) (fs n 0);rw [E4] at e1
 obtain ⟨z,hz⟩:∃ z,z=(n%2 == 1):=⟨_,rfl⟩
 rw [←hz];unfold ag;go_enter Tryz.func251,Tryz.ntmps251;go_wp2;go_ret;refine ⟨?_,(Below.refl _ _).alloc (Nat.le_refl _) _⟩;simp [hz]
 rcases Nat.mod_two_eq_zero_or_one n with h | h
 · have h2:(n:Int)%2=0:=by omega
   rw [h,h2];rfl
 · have h2:(n:Int)%2=1:=by omega
   rw [h,h2];rfl
def kP:Nat:=7237005577332262213973186563042994240829374041602535252466099000494570602493
theorem yp:8*kP+5=pF:=by decide
theorem Bc (u v:Nat) (hu:u<pF) (hv:v<pF) (w:World) (im:IM w) :
 Calls Tryz.prog 219 #[ag u,ag v] w fun e w'=>e = .returned (.tuple #[ag ((df kP u v).getD 0),.bool (df kP u v).isSome])∧Below w.heap.size w w':=by
 have hbs:∀ b:Nat,b<pF→b ^ 1%pF=b:=fun b h=>by rw [Nat.pow_one,Nat.mod_eq_of_lt h]
 have hl:∀ a:Nat,a%pF<pF:=fun a=>Nat.mod_lt _ db
 obtain ⟨E,hE⟩:∃ E:Nat,1809251394333065553493296640760748560207343510400633813116524750123642650623=E:=⟨_,rfl⟩
 obtain ⟨kk,hkk⟩:∃ kk,kP=kk:=⟨_,rfl⟩
 have hsum:1+E*2 ^ 2=kk:=by rw [←hE,←hkk];decide
 obtain ⟨v2,hv2⟩:∃ x,x=v*v%pF:=⟨_,rfl⟩
 obtain ⟨v3,hv3⟩:∃ x,x=v2*v%pF:=⟨_,rfl⟩
 obtain ⟨a1,ha1⟩:∃ x,x=u*v3%pF:=⟨_,rfl⟩
 obtain ⟨a2,ha2⟩:∃ x,x=a1*v3%pF:=⟨_,rfl⟩
 obtain ⟨b,hb⟩:∃ x,x=a2*v%pF:=⟨_,rfl⟩
 obtain ⟨o,ho⟩:∃ x,x=b ^ E%pF:=⟨_,rfl⟩
 obtain ⟨t,ht⟩:∃ x,x=b ^ kk%pF:=⟨_,rfl⟩
 obtain ⟨t2,ht2⟩:∃ x,x=t*u%pF:=⟨_,rfl⟩
 obtain ⟨x0,hx0⟩:∃ x,x=t2*v3%pF:=⟨_,rfl⟩
 obtain ⟨xx,hxx⟩:∃ x,x=x0*x0%pF:=⟨_,rfl⟩
 obtain ⟨sq,hsq⟩:∃ x,x=xx*v%pF:=⟨_,rfl⟩
 obtain ⟨nu,hnu⟩:∃ x,x=(0+pF - u)%pF:=⟨_,rfl⟩
 obtain ⟨xi,hxi⟩:∃ x,x=x0*iM%pF:=⟨_,rfl⟩
 have lv2:v2<pF:=by rw [hv2];exact hl _
 have lv3:v3<pF:=by rw [hv3];exact hl _
 have la1:a1<pF:=by rw [ha1];exact hl _
 have la2:a2<pF:=by rw [ha2];exact hl _
 have lb:b<pF:=by rw [hb];exact hl _
 have lt:t<pF:=by rw [ht];exact hl _
 have lt2:t2<pF:=by rw [ht2];exact hl _
 have lx0:x0<pF:=by rw [hx0];exact hl _
 have lxx:xx<pF:=by rw [hxx];exact hl _
 have lsq:sq<pF:=by rw [hsq];exact hl _
 have lnu:nu<pF:=by rw [hnu];exact hl _
 have lxi:xi<pF:=by rw [hxi];exact hl _
 have hX:fZ kk u v=x0:=by
  unfold fZ;rw [←hv2,←hv3,←ha1,←ha2,←hb,←ht,←ht2,←hx0]
 have h:=Av u v v2 v3 a1 a2 b o t t2 x0 xx sq nu xi hu lsq lnu lx0 lxi
  (fun W=>by rw [hv2];exact aI v v hv hv W) (fun W=>by rw [hv3];exact aI v2 v lv2 hv W) (fun W=>by rw [ha1];exact aI u v3 hu lv3 W) (fun W=>by rw [ha2];exact aI a1 v3 la1 lv3 W) (fun W=>by rw [hb];exact aI a2 v la2 hv W)
  (fun W=>by
    have h:=mH b W;rw [hbs _ lb,hE,←ho] at h
    exact h)
  (fun W=>by
    have h:=cJ b E 1 2 kk hsum (by decide) W;rw [hbs _ lb,←ho,←ht] at h
    exact h)
  (fun W=>by rw [ht2];exact aI t u lt hu W) (fun W=>by rw [hx0];exact aI t2 v3 lt2 lv3 W) (fun W=>by rw [hxx];exact aI x0 x0 lx0 lx0 W) (fun W=>by rw [hsq];exact aI xx v lxx hv W)
  (fun W=>by rw [hnu];exact dJ 0 u (by decide) hu W) (fun W=>by rw [hxi];exact aI x0 iM lx0 (by decide) W) (fun W z _=>Ee z W) (fun W z hz=>dJ 0 z (by decide) hz W) w im
 have hP:df kk u v=if sq=u then some (me x0) else if sq=nu then some (me xi) else none:=by
  unfold df;rw [hX,←hxx,←hsq,←hnu,←hxi]
 rw [hkk,hP]
 refine h.mono fun e w' ⟨he,hb⟩=>⟨he.trans ?_,hb⟩
 by_cases h1:sq=u
 · simp only [if_pos h1];rfl
 · simp only [if_neg h1]
   by_cases h2:sq=nu
   · simp only [if_pos h2,decide_eq_true h2];rfl
   · simp only [if_neg h2,decide_eq_false h2];rfl
def xB:Nat:=15112221349535400772501151409588531511454012693041857206046113283949847762202
def yB:Nat:=46316835694926478169428394003475163141307993866256225615783033603165251855960
theorem Dr:xB<pF:=by decide
theorem mI:yB<pF:=by decide
theorem sV:On dE (vf xB yB):=yo (by decide)
theorem GJ {p x:Nat} (hx:x≤p):(p - x)*(p - x)%p=x*x%p:=by
 obtain ⟨d,rfl⟩:∃ d,p=x+d:=⟨p - x,by omega⟩
 rw [Nat.add_sub_cancel_left]
 have e:d*d+(x+d)*x=x*x+(x+d)*d:=by
  rw [Nat.add_mul,Nat.add_mul,Nat.mul_comm d x];omega
 have h1:(d*d+(x+d)*x)%(x+d)=d*d%(x+d):=Nat.add_mul_mod_self_left _ _ _;have h2:(x*x+(x+d)*d)%(x+d)=x*x%(x+d):=Nat.add_mul_mod_self_left _ _ _;rw [←h1,e,h2]
theorem CM {x:Nat} (hx:x<pF):me x*me x%pF=x*x%pF:=by
 unfold me
 split
 · rw [Nat.zero_add,←Nat.mul_mod]
   exact GJ (Nat.le_of_lt hx)
 · rfl
theorem xY {x:Nat} (hx:x<pF):me x%2=0:=by
 have hp:pF%2=1:=by decide
 unfold me
 by_cases h:x%2=1
 · rw [if_pos h,Nat.zero_add,Nat.mod_eq_of_lt (a:=pF - x) (b:=pF) (by omega)]
   generalize pF=p at *;omega
 · rw [if_neg h]
   omega
theorem Cl (k u v:Nat):fZ k u v<pF:=Nat.mod_lt _ db
theorem yS {k u v r:Nat} (hu:u<pF) (h:df k u v=some r):r*r%pF*v%pF=u∧r%2=0:=by
 unfold df at h;have hX:=Cl k u v;generalize fZ k u v=X at *
 by_cases h1:X*X%pF*v%pF=u
 · rw [if_pos h1] at h
   obtain rfl:=Option.some.inj h;exact ⟨by rw [CM hX];exact h1,xY hX⟩
 · rw [if_neg h1] at h
   by_cases h2:X*X%pF*v%pF=(0+pF - u)%pF
   · rw [if_pos h2] at h
     obtain rfl:=Option.some.inj h;have hl:X*iM%pF<pF:=Nat.mod_lt _ db;refine ⟨?_,xY hl⟩;rw [CM hl,vn FY,neg_mul _ v (Nat.mod_lt _ db),h2];exact (tm (CV u) hu).2 rfl
   · rw [if_neg h2] at h
     cases h
end Go.Proofs.YtibdhadbflfdpaaGreatDoor
