/- What the proof stands on: R8V, R8W, I2LI, R8X, R9A, R9B. -/
import Derived.Test.YtbbikhlbkpjpjaaGreatDoorI2CaM
import Derived.Test.YtbbikhlbkpjpjaaGreatDoorR8AM
import Derived.Test.YtbbikhlbkpjpjaaGreatDoorR8BM
import Derived.Test.YtbbikhlbkpjpjaaGreatDoorR8TM
namespace Go.Proofs.YtbbikhlbkpjpjaaGreatDoor
open Go.RowKit
structure Ab where
 su:Nat→Bool→Nat
 kp:Nat→Bool→Nat→Bool
def fsS (n:Nat) (R:Nat→Nat) (i:Nat) (t:Bool):Nat→Nat:=fstS (wyS R (dep7 n) i (dep7 n)) t
def gnS (n:Nat) (R:Nat→Nat) (i:Nat) (t:Bool) (g:Nat):Nat→Nat:=rcS 0 (fsS n R i t) g
def gnK (n:Nat) (R:Nat→Nat) (i:Nat) (t:Bool) (g:Nat):Nat→Nat:=keyS g (gnS n R i t g)
def gnN (n:Nat) (R:Nat→Nat) (i:Nat) (t:Bool) (g:Nat):Nat→Nat:=nonS g (gnS n R i t g)
theorem gnS_lt (n:Nat) (R:Nat→Nat) (i:Nat) (t:Bool) (g j:Nat):gnS n R i t g j<256:=rcS_lt _ _ (fun _=>exN_lt ..) g j
theorem rcS_add (X:Nat→Nat) (g:Nat):∀ k,rcS g (rcS 0 X g) k=rcS 0 X (g+k):=by
 intro k
 induction k with
 | zero=>rfl
 | succ k ih =>
  show nextS (g+k) (rcS g (rcS 0 X g) k)=nextS (0+(g+k)) (rcS 0 X (g+k))
  rw [ih,Nat.zero_add]
structure RInv (n:Nat) (R:Nat→Nat) (op:Nat→Bool) (a:Ab) (S:Rs):Prop where
 hn:S.n=n
 wid:n∈wids7
 hR:∀ j,R j<256
 sd:SdOk n R op S.sd
 rtS:∀ i t,i<n→op i=true→S.rt ((i:Int),t)=some (a.su i t,gnS n R i t (a.su i t))
 rtN:∀ i t,i<n→op i=false→S.rt ((i:Int),t)=none∧a.su i t=0
 kpS:∀ i t g,i<n→S.kp (((i:Int),t),((g:Nat):Int))=if a.kp i t g=true then some (gnK n R i t g,gnN n R i t g) else none
 kpN:∀ i t (g:Int),i<n→g<0→S.kp (((i:Int),t),g)=none
 kb:∀ i t g,a.kp i t g=true→g<a.su i t∧a.su i t≤g+32
 sb:∀ i t,a.su i t≤4294967296
def ab0:Ab:=⟨fun _ _=>0,fun _ _ _=>false⟩
theorem mayB_wid {n:Nat} (h:n∈wids7):mayB (n:Int)=true:=by
 unfold wids7 at h
 simp only [List.mem_cons,List.not_mem_nil,or_false] at h
 rcases h with rfl | rfl | rfl | rfl | rfl | rfl | rfl <;> rfl
theorem inv0 {n:Nat} (hn:n∈wids7) (R:Nat→Nat) (hR:∀ j,R j<256):RInv n R (fun _=>false) ab0 (rs0 n R):=by
 obtain ⟨r1,r2,r3⟩:=root_in8 hn
 refine ⟨rfl,hn,hR,⟨fun j hj h=>by (cases h),fun j hj _=>⟨dep7 n,Nat.le_refl _,?_,fun k hk hkd => ?_⟩⟩,fun i t _ h=>by (cases h),fun i t _ _=>⟨rfl,rfl⟩,fun i t g _=>rfl,fun i t g _ _=>rfl,fun i t g h=>by (cases h),fun i t=>Nat.zero_le _⟩
 · show upS (fun _=>none) ((n:Int) - 1) (some R) (anc7 j (dep7 n):Int)=_
   rw [(r3 j hj).1,Nat.sub_self]
   unfold upS
   rw [if_pos (by omega)]
   rfl
 · show upS (fun _=>none) ((n:Int) - 1) (some R) (anc7 j k:Int)=_
   unfold upS
   rw [if_neg (fun e=>hkd ?_)]
   have e2:anc7 j k=anc7 j (dep7 n):=by rw [(r3 j hj).1];omega
   exact ((anc_eq8 (show j<64 by omega) (show j<64 by omega) (show k<7 by omega) r1).1.1 e2).1
theorem RInv.su_eq {n:Nat} {R:Nat→Nat} {op:Nat→Bool} {a:Ab} {S:Rs} (h:RInv n R op a S) {i:Nat} (t:Bool) (hi:i<n):S.su ((i:Int),t)=a.su i t:=by
 unfold Rs.su Rs.rt0
 cases ho:op i with
 | true=>rw [h.rtS i t hi ho];rfl
 | false=>rw [(h.rtN i t hi ho).1,(h.rtN i t hi ho).2];rfl
def Ab.rf (a:Ab) (i:Nat) (t:Bool) (g:Int):Int:=if g<0∨4294967296≤g then 11 else if g<(a.su i t:Int)∧a.kp i t g.toNat=false then 50 else if (a.su i t:Int)+32<g then 51 else 0
theorem RInv.rf_eq {n:Nat} {R:Nat→Nat} {op:Nat→Bool} {a:Ab} {S:Rs} (h:RInv n R op a S) {i:Nat} (t:Bool) (hi:i<n) (g:Int):S.rf ((i:Int),t) g=a.rf i t g:=by
 unfold Rs.rf Ab.rf
 rw [if_neg (fun e=>e ⟨Int.natCast_nonneg _,by rw [h.hn];show (i:Int)<(n:Int);omega⟩),h.su_eq t hi]
 by_cases h1:g<0∨4294967296≤g
 · rw [if_pos h1,if_pos h1]
 · rw [if_neg h1,if_neg h1]
   have e:(S.kp (((i:Int),t),g)).isSome=a.kp i t g.toNat:=by
    have e1:g=((g.toNat:Nat):Int):=by omega
    have e2:=h.kpS i t g.toNat hi
    rw [←e1] at e2
    rw [e2]
    cases a.kp i t g.toNat <;> rfl
   rw [e]
theorem RInv.ky {n:Nat} {R:Nat→Nat} {op:Nat→Bool} {a:Ab} {S:Rs} (h:RInv n R op a S) {i:Nat} (t:Bool) (hi:i<n) (G:Nat) (hG:G<4294967296) (hk:a.kp i t G=true∨a.su i t≤G):KyIs S i t G (gnK n R i t G) (gnN n R i t G):=by
 by_cases hkp:a.kp i t G=true
 · exact ky_kept (by rw [h.kpS i t G hi,if_pos hkp])
 · have hle:=hk.resolve_left hkp
   have hno:S.kp (((i:Int),t),(G:Int))=none:=by rw [h.kpS i t G hi,if_neg hkp]
   have hst:StOk S i t (a.su i t) (gnS n R i t (a.su i t)):=by
    cases ho:op i with
    | true=>exact st_some (h.rtS i t hi ho)
    | false =>
     obtain ⟨e1,e2⟩:=h.rtN i t hi ho
     obtain ⟨d,hd,d1,d2⟩:=h.sd.one i hi ho
     have hok:=dn_ok h.hR h.wid h.hn hi hd d1 d2
     have hs:=st_none (t:=t) e1 hok
     have e3:dwS R (dep7 n) i d (d+1 - 1)=wyS R (dep7 n) i (dep7 n):=by
      unfold dwS
      rw [show dep7 n - (d - (d+1 - 1))=dep7 n by omega]
     rw [e3] at hs
     rw [e2]
     exact hs
   have hf:=ky_far hG hno (gnS_lt n R i t _) hle hst
   have e:rcS (a.su i t) (gnS n R i t (a.su i t)) (G - a.su i t)=gnS n R i t G:=by
    unfold gnS
    rw [rcS_add,show a.su i t+(G - a.su i t)=G by omega]
   rw [e] at hf
   exact hf
theorem paK_in (f:Ms→Option ((Nat→Nat) × (Nat→Nat))) (l:Ln) (a:Nat) (X:Nat→Nat):∀ m k,k<m→paK f l a X m (l,((a+k:Nat):Int))=some (keyS (a+k) (rcS a X k),nonS (a+k) (rcS a X k)):=by
 intro m
 induction m with
 | zero=>intro k hk;omega
 | succ m ih =>
  intro k hk
  show upQ (paK f l a X m) (l,((a+m:Nat):Int)) _ (l,((a+k:Nat):Int))=_
  unfold upQ
  by_cases e:k=m
  · rw [e,if_pos rfl]
  · rw [if_neg (fun h=>e (by have:=congrArg Prod.snd h;simp at this;omega))]
    exact ih k (by omega)
theorem paK_out (f:Ms→Option ((Nat→Nat) × (Nat→Nat))) (l:Ln) (a:Nat) (X:Nat→Nat) (x:Ms):∀ m,(∀ k,k<m→x≠(l,((a+k:Nat):Int)))→paK f l a X m x=f x:=by
 intro m
 induction m with
 | zero=>intro _;rfl
 | succ m ih =>
  intro h
  show upQ (paK f l a X m) (l,((a+m:Nat):Int)) _ x=_
  unfold upQ
  rw [if_neg (h m (Nat.lt_succ_self m))]
  exact ih (fun k hk=>h k (by omega))
theorem paD_in (f:Ms→Option ((Nat→Nat) × (Nat→Nat))) (l:Ln) (o:Int):∀ m k,k<m→paD f l o m (l,o+(k:Int))=none:=by
 intro m
 induction m with
 | zero=>intro k hk;omega
 | succ m ih =>
  intro k hk
  show upQ (paD f l o m) (l,o+(m:Int)) _ (l,o+(k:Int))=_
  unfold upQ
  by_cases e:k=m
  · rw [e,if_pos rfl]
  · rw [if_neg (fun h=>e (by have:=congrArg Prod.snd h;simp at this;omega))]
    exact ih k (by omega)
theorem paD_out (f:Ms→Option ((Nat→Nat) × (Nat→Nat))) (l:Ln) (o:Int) (x:Ms):∀ m,(∀ k:Nat,k<m→x≠(l,o+(k:Int)))→paD f l o m x=f x:=by
 intro m
 induction m with
 | zero=>intro _;rfl
 | succ m ih =>
  intro h
  show upQ (paD f l o m) (l,o+(m:Int)) _ x=_
  unfold upQ
  rw [if_neg (h m (Nat.lt_succ_self m))]
  exact ih (fun k hk=>h k (by omega))
theorem ln_key {j i:Nat} {u t:Bool} (h:(((j:Int),u):Ln)=((i:Int),t)):j=i∧u=t:=by
 simp at h
 exact ⟨by omega,h.2⟩
theorem ms_key {j i:Nat} {u t:Bool} {g G:Int} (h:((((j:Int),u),g):Ms)=(((i:Int),t),G)):j=i∧u=t∧g=G:=by
 simp at h
 exact ⟨by omega,h.1.2,h.2⟩
def Ab.past (a:Ab) (i:Nat) (t:Bool) (G:Nat):Ab :=
 ⟨fun j u=>if j=i∧u=t then G+1 else a.su j u,fun j u g=>if j=i∧u=t then (a.kp i t g || decide (a.su i t≤g) && decide (g<G)) && decide (G+1≤g+32) else a.kp j u g⟩
def Ab.gone (a:Ab) (i:Nat) (t:Bool) (G:Nat):Ab:=⟨a.su,fun j u g=>if j=i∧u=t∧g=G then false else a.kp j u g⟩
theorem RInv.gone {n:Nat} {R:Nat→Nat} {op:Nat→Bool} {a:Ab} {S:Rs} (h:RInv n R op a S) {i:Nat} (t:Bool) (G:Nat):RInv n R op (a.gone i t G) { S with kp:=upQ S.kp (((i:Int),t),(G:Int)) none }:=by
 refine ⟨h.hn,h.wid,h.hR,h.sd,h.rtS,h.rtN,fun j u g hj => ?_,fun j u g hj hg => ?_,fun j u g hk => ?_,h.sb⟩
 · show upQ S.kp (((i:Int),t),(G:Int)) none (((j:Int),u),((g:Nat):Int))=if (if j=i∧u=t∧g=G then false else a.kp j u g)=true then _ else _
   unfold upQ
   by_cases e:j=i∧u=t∧g=G
   · rw [if_pos e,if_pos (by rw [e.1,e.2.1,e.2.2])];rfl
   · rw [if_neg e,if_neg (fun e2=>e (by have h:=ms_key e2;exact ⟨h.1,h.2.1,by omega⟩))]
     exact h.kpS j u g hj
 · show upQ S.kp (((i:Int),t),(G:Int)) none (((j:Int),u),g)=none
   unfold upQ
   split
   · rfl
   · exact h.kpN j u g hj hg
 · refine h.kb j u g ?_
   have hk':(if j=i∧u=t∧g=G then false else a.kp j u g)=true:=hk
   by_cases e:j=i∧u=t∧g=G
   · rw [if_pos e] at hk';cases hk'
   · rwa [if_neg e] at hk'
set_option maxRecDepth 20000 in
theorem RInv.opened {n:Nat} {R:Nat→Nat} {op:Nat→Bool} {a:Ab} {S:Rs} (h:RInv n R op a S) {i:Nat} (hi:i<n):∃ S1 op1,OnOk S i S1∧op1 i=true∧RInv n R op1 a S1:=by
 cases ho:op i with
 | true=>exact ⟨S,op,on_old (h.rtS i true hi ho),ho,h⟩
 | false =>
  obtain ⟨d,hd,d1,d2⟩:=h.sd.one i hi ho
  have hok:=dn_ok h.hR h.wid h.hn hi hd d1 d2
  have e3:dwS R (dep7 n) i d (d+1 - 1)=wyS R (dep7 n) i (dep7 n):=by
   unfold dwS
   rw [show dep7 n - (d - (d+1 - 1))=dep7 n by omega]
  have hon:=on_new (h.rtN i true hi ho).1 hok
  rw [e3] at hon
  have hsd:=h.sd.opened h.wid hi ho hd d1 d2
  refine ⟨{ S with sd:=opS S.sd (dwX i d) (dwS R (dep7 n) i d) (d+1),rt:=opT S.rt i (wyS R (dep7 n) i (dep7 n)) 2 },fun j=>op j || j == i,hon,by simp,?_⟩
  refine RInv.mk h.hn h.wid h.hR hsd (fun j u hj hop => ?_) (fun j u hj hop => ?_) h.kpS h.kpN h.kb h.sb
  · show upR (upR S.rt ((i:Int),true) (some (0,fstS _ true))) ((i:Int),false) (some (0,fstS _ false)) ((j:Int),u)=_
    unfold upR
    by_cases e:j=i
    · subst e
      have e0:=(h.rtN j u hj ho).2
      rw [e0]
      cases u
      · rw [if_pos (show (((j:Int),false):Ln)=((j:Int),false) from rfl)];rfl
      · rw [if_neg (fun e2=>by have:=(ln_key e2).2;cases this),if_pos (show (((j:Int),true):Ln)=((j:Int),true) from rfl)];rfl
    · rw [if_neg (fun e2=>e (ln_key e2).1),if_neg (fun e2=>e (ln_key e2).1)]
      refine h.rtS j u hj ?_
      have:(j == i)=false:=by simpa using e
      simpa [this] using hop
  · have hop':op j=false∧j≠i:=by simpa using hop
    show upR (upR S.rt ((i:Int),true) (some (0,fstS _ true))) ((i:Int),false) (some (0,fstS _ false)) ((j:Int),u)=none∧_
    unfold upR
    rw [if_neg (fun e2=>hop'.2 (ln_key e2).1),if_neg (fun e2=>hop'.2 (ln_key e2).1)]
    exact h.rtN j u hj hop'.1
theorem RInv.past {n:Nat} {R:Nat→Nat} {op:Nat→Bool} {a:Ab} {S:Rs} (h:RInv n R op a S) {i:Nat} (t:Bool) (hi:i<n) (ho:op i=true) (G:Nat) (hG:G<4294967296) (hle:a.su i t≤G):RInv n R op (a.past i t G) (paS S ((i:Int),t) (a.su i t) (gnS n R i t (a.su i t)) G):=by
 have hrc:∀ k,rcS (a.su i t) (gnS n R i t (a.su i t)) k=gnS n R i t (a.su i t+k):=fun k=>by unfold gnS;rw [rcS_add]
 refine ⟨h.hn,h.wid,h.hR,h.sd,fun j u hj hop => ?_,fun j u hj hop => ?_,fun j u g hj => ?_,fun j u g hj hg => ?_,fun j u g hk => ?_,fun j u => ?_⟩
 · show upR S.rt ((i:Int),t) _ ((j:Int),u)=some ((if j=i∧u=t then G+1 else a.su j u),gnS n R j u (if j=i∧u=t then G+1 else a.su j u))
   unfold upR
   by_cases e:j=i∧u=t
   · rw [if_pos e,if_pos (by rw [e.1,e.2]),hrc,show a.su i t+(G+1 - a.su i t)=G+1 by omega,e.1,e.2]
   · rw [if_neg e,if_neg (fun e2=>e (ln_key e2))]
     exact h.rtS j u hj hop
 · have hji:¬(j=i∧u=t):=fun e=>by rw [e.1,ho] at hop;cases hop
   show upR S.rt ((i:Int),t) _ ((j:Int),u)=none∧(if j=i∧u=t then G+1 else a.su j u)=0
   unfold upR
   rw [if_neg hji,if_neg (fun e2=>hji (ln_key e2))]
   exact h.rtN j u hj hop
 · show paD (paK S.kp ((i:Int),t) (a.su i t) _ (G - a.su i t)) ((i:Int),t) ((a.su i t:Int) - 32) (G+1 - a.su i t) (((j:Int),u),((g:Nat):Int))=if (if j=i∧u=t then (a.kp i t g || decide (a.su i t≤g) && decide (g<G)) && decide (G+1≤g+32) else a.kp j u g)=true then _ else _
   by_cases e:j=i∧u=t
   · obtain ⟨rfl,rfl⟩:=e
     rw [if_pos (show j=j∧u=u from ⟨rfl,rfl⟩)]
     by_cases hlow:G+1≤g+32
     · rw [paD_out _ _ _ _ _ (fun k hk e2=>by have h:=(ms_key e2).2.2;omega)]
       by_cases hin:a.su j u≤g∧g<G
       · have e4:=paK_in S.kp ((j:Int),u) (a.su j u) (gnS n R j u (a.su j u)) (G - a.su j u) (g - a.su j u) (by omega)
         rw [show a.su j u+(g - a.su j u)=g by omega,hrc,show a.su j u+(g - a.su j u)=g by omega] at e4
         rw [e4,if_pos (by simp;exact ⟨.inr hin,by omega⟩)]
         rfl
       · rw [paK_out _ _ _ _ _ _ (fun k hk e2=>by have h:=(ms_key e2).2.2;omega),h.kpS j u g hj]
         have e5:(decide (a.su j u≤g) && decide (g<G))=false:=by
          cases h6:(decide (a.su j u≤g) && decide (g<G)) with
          | false=>rfl
          | true=>simp at h6;exact absurd h6 hin
         rw [e5,Bool.or_false,decide_eq_true hlow,Bool.and_true]
     · rw [decide_eq_false hlow,Bool.and_false,if_neg (by simp)]
       by_cases hst:a.su j u≤g+32
       · have e4:=paD_in (paK S.kp ((j:Int),u) (a.su j u) (gnS n R j u (a.su j u)) (G - a.su j u)) ((j:Int),u) ((a.su j u:Int) - 32) (G+1 - a.su j u) (g+32 - a.su j u) (by omega)
         rw [show (a.su j u:Int) - 32+((g+32 - a.su j u:Nat):Int)=(g:Int) by omega] at e4
         exact e4
       · rw [paD_out _ _ _ _ _ (fun k hk e2=>by have h:=(ms_key e2).2.2;omega),paK_out _ _ _ _ _ _ (fun k hk e2=>by have h:=(ms_key e2).2.2;omega),h.kpS j u g hj]
         by_cases hk:a.kp j u g=true
         · have:=(h.kb j u g hk).2;omega
         · rw [if_neg hk]
   · rw [if_neg e,paD_out _ _ _ _ _ (fun k hk e2=>e (have h:=ms_key e2;⟨h.1,h.2.1⟩)),paK_out _ _ _ _ _ _ (fun k hk e2=>e (have h:=ms_key e2;⟨h.1,h.2.1⟩))]
     exact h.kpS j u g hj
 · show paD (paK S.kp ((i:Int),t) (a.su i t) _ (G - a.su i t)) ((i:Int),t) ((a.su i t:Int) - 32) (G+1 - a.su i t) (((j:Int),u),g)=none
   by_cases e:j=i∧u=t
   · obtain ⟨rfl,rfl⟩:=e
     by_cases hd:∃ k:Nat,k<G+1 - a.su j u∧g=(a.su j u:Int) - 32+(k:Int)
     · obtain ⟨k,hk,hgk⟩:=hd
       rw [hgk]
       exact paD_in _ _ _ _ k hk
     · rw [paD_out _ _ _ _ _ (fun k hk e2=>hd ⟨k,hk,(ms_key e2).2.2⟩),paK_out _ _ _ _ _ _ (fun k hk e2=>by have h:=(ms_key e2).2.2;omega)]
       exact h.kpN j u g hj hg
   · rw [paD_out _ _ _ _ _ (fun k hk e2=>e (have h:=ms_key e2;⟨h.1,h.2.1⟩)),paK_out _ _ _ _ _ _ (fun k hk e2=>e (have h:=ms_key e2;⟨h.1,h.2.1⟩))]
     exact h.kpN j u g hj hg
 · have hk':(if j=i∧u=t then (a.kp i t g || decide (a.su i t≤g) && decide (g<G)) && decide (G+1≤g+32) else a.kp j u g)=true:=hk
   show g<(if j=i∧u=t then G+1 else a.su j u)∧(if j=i∧u=t then G+1 else a.su j u)≤g+32
   by_cases e:j=i∧u=t
   · rw [if_pos e] at hk' ⊢
     simp at hk'
     obtain ⟨h1,h2⟩:=hk'
     rcases h1 with h1 | h1
     · have:=(h.kb i t g h1).1;exact ⟨by omega,by omega⟩
     · exact ⟨by omega,by omega⟩
   · rw [if_neg e] at hk' ⊢
     exact h.kb j u g hk'
 · show (if j=i∧u=t then G+1 else a.su j u)≤4294967296
   split
   · omega
   · exact h.sb j u
end Go.Proofs.YtbbikhlbkpjpjaaGreatDoor
namespace Go.Proofs.YtbbikhlbkpjpjaaGreatDoor
open Go.RowKit
def LvR (w:World) (tb sb rb kb n:Nat) (R:Nat→Nat) (a:Ab):Prop:=∃ op S,RInv n R op a S∧RsAt w tb sb rb kb S
theorem LvR.still {w w':World} {tb sb rb kb n:Nat} {R:Nat→Nat} {a:Ab} (h:LvR w tb sb rb kb n R a) (hb:Below w.heap.size w w'):LvR w' tb sb rb kb n R a :=
 let ⟨op,S,h1,h2⟩:=h;⟨op,S,h1,h2.still hb⟩
theorem LvR.nocell {w:World} {tb sb rb kb n:Nat} {R:Nat→Nat} {a:Ab} (h:LvR w tb sb rb kb n R a):∀ b,(b=sb∨b=rb∨b=kb)→∀ o,w.cell? ⟨b,o,none⟩=none:=fun b e o=>by
 obtain ⟨op,S,-,h2⟩:=h
 rcases e with e | e | e <;> rw [e]
 · exact h2.ms.nocell o
 · exact h2.mr.nocell o
 · exact h2.mq.nocell o
def Ab.use (a:Ab) (i:Nat) (t:Bool) (g:Int):Ab:=if a.rf i t g≠0 then a else if g<(a.su i t:Int) then a.gone i t g.toNat else a.past i t g.toNat
theorem LvR.rf {w:World} {tb sb rb kb n:Nat} {R:Nat→Nat} {a:Ab} (h:LvR w tb sb rb kb n R a) {i:Nat} (t:Bool) (hi:i<n) (g:Int):RfIs (pA tb 0) (i:Int) t g (a.rf i t g) w:=by
 obtain ⟨op,S,h1,h2⟩:=h
 rw [←h1.rf_eq t hi g]
 exact rf_is (by rw [h1.hn];omega) (i:Int) t g (by rw [h1.su_eq t hi];exact h1.sb i t) h2
theorem Ab.rf_pos {a:Ab} {i:Nat} {t:Bool} {g:Int} (h:a.rf i t g=0):0≤g∧g<4294967296∧(g<(a.su i t:Int)→a.kp i t g.toNat=true):=by
 unfold Ab.rf at h
 by_cases h1:g<0∨4294967296≤g
 · rw [if_pos h1] at h;exact absurd h (by decide)
 · rw [if_neg h1] at h
   by_cases h2:g<(a.su i t:Int)∧a.kp i t g.toNat=false
   · rw [if_pos h2] at h;exact absurd h (by decide)
   · refine ⟨by omega,by omega,fun e => ?_⟩
     cases hk:a.kp i t g.toNat with
     | true=>rfl
     | false=>exact absurd ⟨e,hk⟩ h2
theorem aKey {w:World} {tb sb rb kb n:Nat} {R:Nat→Nat} {a:Ab} (h:LvR w tb sb rb kb n R a) (hT:TabAt w) (hD:DbT w) {i:Nat} (t:Bool) (hi:i<n) (g:Int) (hr:a.rf i t g=0) :
 Calls Tryz.prog 15 #[pA tb 0,.int .i64 (i:Int),.bool t,.int .i64 g] w fun e w'=>∃ q,e = .returned (.tuple #[.slice (some ⟨q,0,none⟩) 16 16,.slice (some ⟨q,16,none⟩) 12 12,.int .i64 0])∧w.heap.size≤q∧RW w' q 0 (kyL (gnK n R i t g.toNat) (gnN n R i t g.toNat))∧Below w.heap.size w w':=by
 have hf:=h.rf t hi g
 obtain ⟨e1,e2,e3⟩:=Ab.rf_pos hr
 obtain ⟨op,S,h1,h2⟩:=h
 rw [hr] at hf
 have e4:g=((g.toNat:Nat):Int):=by omega
 rw [e4] at hf
 have c:=rKey_ok tb sb rb kb S i t g.toNat _ _ w hf (h1.ky t hi g.toNat (by omega) (by by_cases e:g<(a.su i t:Int);exact .inl (e3 e);exact .inr (by omega))) h2 hT hD
 rwa [←e4] at c
theorem aKey_no {w:World} {tb sb rb kb n:Nat} {R:Nat→Nat} {a:Ab} (h:LvR w tb sb rb kb n R a) {i:Nat} (t:Bool) (hi:i<n) (g:Int) (hr:a.rf i t g≠0) :
 Calls Tryz.prog 15 #[pA tb 0,.int .i64 (i:Int),.bool t,.int .i64 g] w fun e w'=>e = .returned (.tuple #[.slice none 0 0,.slice none 0 0,.int .i64 (a.rf i t g)])∧Below w.heap.size w w' :=
 rKey_no _ _ _ _ _ hr w (h.rf t hi g)
theorem aUse {w:World} {tb sb rb kb n:Nat} {R:Nat→Nat} {a:Ab} (h:LvR w tb sb rb kb n R a) (hT:TabAt w) (hD:DbT w) {i:Nat} (t:Bool) (hi:i<n) (g:Int) :
 Calls Tryz.prog 18 #[pA tb 0,.int .i64 (i:Int),.bool t,.int .i64 g] w fun e w'=>e = .returned (.int .i64 (a.rf i t g))∧LvR w' tb sb rb kb n R (a.use i t g)∧But (fun b=>b=sb∨b=rb∨b=kb) w w':=by
 have hf:=h.rf t hi g
 by_cases hr:a.rf i t g=0
 · obtain ⟨e1,e2,e3⟩:=Ab.rf_pos hr
   obtain ⟨op,S,h1,h2⟩:=h
   unfold Ab.use
   rw [if_neg (fun e=>e hr),hr]
   rw [hr] at hf
   have e4:g=((g.toNat:Nat):Int):=by omega
   by_cases hl:g<(a.su i t:Int)
   · rw [if_pos hl]
     rw [e4] at hf
     have c:=rUse_kept tb sb rb kb S i t g.toNat w hf (by rw [h1.su_eq t hi];omega) h2
     rw [←e4] at c
     refine c.mono fun e w' ⟨q1,q2,q3⟩=>⟨q1,⟨op,_,h1.gone t g.toNat,?_⟩,q3.mono (fun k e => .inr (.inr e))⟩
     rwa [←e4]
   · rw [if_neg hl]
     rw [e4] at hf
     obtain ⟨S1,op1,o1,o2,o3⟩:=h1.opened hi
     have c:=rUse_far tb sb rb kb S i t g.toNat w hf (by rw [h1.su_eq t hi];omega) S1 o1 (a.su i t) (gnS n R i t (a.su i t)) (gnS_lt n R i t _) (o3.rtS i t hi o2) (by omega) (by omega) h2 hT hD
     rw [←e4] at c
     exact c.mono fun e w' ⟨q1,q2,q3⟩=>⟨q1,⟨op1,_,o3.past t hi o2 g.toNat (by omega) (by omega),q2⟩,q3⟩
 · unfold Ab.use
   rw [if_pos hr]
   exact (rUse_no _ _ _ _ _ hr w hf).mono fun e w' ⟨q1,q2⟩=>⟨q1,h.still q2,But.ofB q2⟩
theorem aNext {w:World} {tb sb rb kb n:Nat} {R:Nat→Nat} {a:Ab} (h:LvR w tb sb rb kb n R a) (hT:TabAt w) (hD:DbT w) {i:Nat} (t:Bool) (hi:i<n) (hsu:a.su i t<4294967295) :
 Calls Tryz.prog 14 #[pA tb 0,.int .i64 (i:Int),.bool t] w fun e w'=>∃ q,e = .returned (.tuple #[.int .i64 (a.su i t:Int),.slice (some ⟨q,0,none⟩) 16 16,.slice (some ⟨q,16,none⟩) 12 12,.int .i64 0])∧w.heap.size≤q∧RW w' q 0 (kyL (gnK n R i t (a.su i t)) (gnN n R i t (a.su i t)))∧LvR w' tb sb rb kb n R (a.past i t (a.su i t))∧But (fun b=>b=sb∨b=rb∨b=kb) w w':=by
 obtain ⟨op,S,h1,h2⟩:=h
 obtain ⟨S1,op1,o1,o2,o3⟩:=h1.opened hi
 have c:=rNext_ok tb sb rb kb S i t (by rw [h1.hn];exact hi) (a.su i t) (h1.su_eq t hi) hsu _ _ (h1.ky t hi (a.su i t) (by omega) (.inr (Nat.le_refl _))) S1 o1 (gnS n R i t (a.su i t)) (gnS_lt n R i t _) (o3.rtS i t hi o2) w h2 hT hD
 exact c.mono fun e w' ⟨q,q1,q2,q3,q4,q5⟩=>⟨q,q1,q2,q3,⟨op1,_,o3.past t hi o2 (a.su i t) (by omega) (Nat.le_refl _),q4⟩,q5⟩
def Ab.kl (a:Ab) (i:Nat) (t:Bool) (o:Int):Nat→List Int
 | 0=>[]
 | m+1=>a.kl i t o m ++ (if 0≤o+(m:Int)∧a.kp i t (o+(m:Int)).toNat=true then [o+(m:Int)] else [])
theorem RInv.kl_eq {n:Nat} {R:Nat→Nat} {op:Nat→Bool} {a:Ab} {S:Rs} (h:RInv n R op a S) {i:Nat} (t:Bool) (hi:i<n) (o:Int):∀ m,kpL S.kp ((i:Int),t) o m=a.kl i t o m:=by
 intro m
 induction m with
 | zero=>rfl
 | succ m ih =>
  show kpL S.kp ((i:Int),t) o m ++ _=a.kl i t o m ++ _
  rw [ih]
  by_cases hg:0≤o+(m:Int)
  · have e:=h.kpS i t (o+(m:Int)).toNat hi
    rw [show (((o+(m:Int)).toNat:Nat):Int)=o+(m:Int) by omega] at e
    rw [e]
    by_cases hk:a.kp i t (o+(m:Int)).toNat=true
    · rw [if_pos hk,if_pos (show (some (gnK n R i t (o+(m:Int)).toNat,gnN n R i t (o+(m:Int)).toNat)).isSome=true from rfl),if_pos ⟨hg,hk⟩]
    · rw [if_neg hk,if_neg (by simp),if_neg (fun e=>hk e.2)]
  · rw [h.kpN i t (o+(m:Int)) hi (by omega),if_neg (by simp),if_neg (fun e=>hg e.1)]
theorem aKept {w:World} {tb sb rb kb n:Nat} {R:Nat→Nat} {a:Ab} (h:LvR w tb sb rb kb n R a) {i:Nat} (t:Bool) (hi:i<n) :
 Calls Tryz.prog 17 #[pA tb 0,.int .i64 (i:Int),.bool t] w fun e w'=>∃ v,e = .returned v∧ZIn w' v (a.kl i t ((a.su i t:Int) - 32) 32)∧Below w.heap.size w w':=by
 obtain ⟨op,S,h1,h2⟩:=h
 have c:=rKept_any tb sb rb kb S (i:Int) t ⟨by omega,by rw [h1.hn];omega⟩ (by rw [h1.su_eq t hi];exact h1.sb i t) w h2
 rwa [h1.su_eq t hi,h1.kl_eq t hi] at c
theorem aNew {w:World} (g o c:Nat) (R:Nat→Nat) (hR:∀ j,R j<256) {n:Nat} (hn:n∈wids7) (hg:g<w.heap.size) (hs:w.rangeAt g o (ints .u8 32 R)) :
 Calls Tryz.prog 7 #[.slice (some ⟨g,o,none⟩) 32 c,.int .i64 (n:Int)] w fun e w'=>e = .returned (.tuple #[pA (w.heap.size+3) 0,.int .i64 0])∧LvR w' (w.heap.size+3) w.heap.size (w.heap.size+1) (w.heap.size+2) n R ab0∧w'.heap.size=w.heap.size+4∧Below w.heap.size w w' :=
 (rNew_ok g o c R n (mayB_wid hn) w hg hs).mono fun _ _ ⟨q1,q2,q3,q4⟩=>⟨q1,⟨_,_,inv0 hn R hR,q2⟩,q3,q4⟩
end Go.Proofs.YtbbikhlbkpjpjaaGreatDoor
namespace Go.Proofs.YtbbikhlbkpjpjaaGreatDoor
open Go.RowKit
set_option maxRecDepth 20000 in
set_option maxHeartbeats 4000000 in
theorem ints_same (a b:Value) (l:List Int) (hl:l.length≤1000) (w:World) (ha:ZIn w a l) (hb:ZIn w b l):Calls Tryz.prog 22 #[a,b] w fun e w'=>e = .returned (.bool true)∧Below w.heap.size w w':=by
 obtain ⟨xa,ca,rfl,fa⟩:=ha
 obtain ⟨xb,cb,rfl,fb⟩:=hb
 have FA:=Hid.mk' fa
 have FB:=Hid.mk' fb
 clear fa fb
 obtain ⟨n,hn⟩:∃ n,n=l.length:=⟨_,rfl⟩
 rw [←hn] at hl ⊢
 have HN:=Hid.mk' hn
 clear hn
 go_enter Tryz.func22,Tryz.ntmps22
 go_wp2
 go_loopw [5] (fun i wr=>∃ q:Nat,q≤n∧i = .int .i64 (q:Int)∧Below w.heap.size w wr) (fun i _=>n - (intOf i).toNat)
 case atStart=>exact ⟨0,Nat.zero_le _,rfl,Below.refl _ _⟩
 case round =>
  obtain ⟨q,hq,rfl,hbw⟩:=hrel
  by_cases hlt:q<n
  · have hz:l[q]? = some l[q]!:=by
     have hql:q<l.length:=by rw [←HN.out];exact hlt
     rw [List.getElem?_eq_getElem hql]
     simp [hql]
    obtain ⟨ga,oa,rfl,la,r1⟩:=FA.out q _ hz
    obtain ⟨gb,ob,rfl,lb,r2⟩:=FB.out q _ hz
    obtain ⟨z,hz'⟩:∃ z,z=l[q]!:=⟨_,rfl⟩
    rw [←hz'] at r1 r2
    have t0:(q:Int)<(n:Int):=by omega
    have t1:(0:Int)≤(q:Int)∧(q:Int)<(n:Int):=by omega
    have t9:IntKind.i64.wrap ((q:Int)+1)=(q:Int)+1:=by simp only [IntKind.wrap_i64];omega
    have bd:Below wr.heap.size wr wr.drew:=(Below.refl _ _).drew
    have bW:=below_next hbw bd
    have s1:∀ u,Below wr.drew.heap.size wr.drew u→u.cell? ⟨ga,oa+q,none⟩=some (.int .i64 z):=fun u hu=>((below_next bW hu).cell (p:=⟨ga,oa+q,none⟩) la).trans r1
    have s2:∀ u,Below wr.drew.heap.size wr.drew u→u.cell? ⟨gb,ob+q,none⟩=some (.int .i64 z):=fun u hu=>((below_next bW hu).cell (p:=⟨gb,ob+q,none⟩) lb).trans r2
    clear hz hz' r1 r2
    go_upto_region 6 with (fail)
    refine wp_region_held_drew (S:=fun u=>Below wr.drew.heap.size wr.drew u) (by kernel_rfl) (Below.refl _ _) (fun hS => ?_)
    refine tg 0 hS ?_
    (try simp only [pS])
    refine tg 1 hS ?_
    (try simp only [pS])
    refine tg 2 hS ?_
    (try simp only [pS])
    refine tc 3 hS (fun u hu=>s1 u hu) ?_
    (try simp only [pS])
    refine tg 4 hS ?_
    (try simp only [pS])
    refine tg 5 hS ?_
    (try simp only [pS])
    refine tg 6 hS ?_
    (try simp only [pS])
    refine tc 7 hS (fun u hu=>s2 u hu) ?_
    (try simp only [pS])
    refine tg 8 hS (v := .bool false) ?_
    (try simp only [pS])
    refine wpAnyH_done (by kernel_rfl) ?_ _
    go_wp2
    go_roundw
    case rel=>exact ⟨q+1,hlt,by go_num,bW⟩
    case measure=>simp [intOf];omega
  · obtain rfl:q=n:=by omega
    have t0:¬(q:Int)<(q:Int):=by omega
    go_wp2
    go_ret
    exact ⟨rfl,hbw⟩
theorem z_two (w:World) (a b:Int):ZIn (w.alloc (.cells #[.int .i64 a,.int .i64 b] 3)) (.slice (some ⟨w.heap.size,0,none⟩) 2 2) [a,b]:=by
 refine ⟨some ⟨w.heap.size,0,none⟩,2,rfl,fun i z hz=>⟨w.heap.size,0,rfl,by simp,?_⟩⟩
 rw [Nat.zero_add]
 match i,hz with
 | 0,hz=>simp at hz;subst hz;simp
 | 1,hz=>simp at hz;subst hz;simp
 | i+2,hz=>simp at hz
end Go.Proofs.YtbbikhlbkpjpjaaGreatDoor
namespace Go.Proofs.YtbbikhlbkpjpjaaGreatDoor
open Go.RowKit
theorem num17_any (z:Int) (w:World):Calls Tryz.prog 9 #[.int .i64 z] w fun e w'=>e = .returned (.int .i64 z)∧w'=w:=by
 go_enter Tryz.func9,Tryz.ntmps9
 go_wp2
 go_ret
 exact ⟨rfl,rfl⟩
def NoP17 (v:Value) (w:World):Prop:=v = .pointer none∨∃ tb,v=pA tb 0∧w.cell? ⟨tb,0,none⟩=some (.int .i64 0)
theorem NoP17.keep {v:Value} {w w':World} (h:NoP17 v w) (hb:Below w.heap.size w w'):NoP17 v w':=by
 rcases h with h | ⟨tb,h1,h2⟩
 · exact .inl h
 · exact .inr ⟨tb,h1,(hb.cell (p:=⟨tb,0,none⟩) (block_lt_of_cell h2)).trans h2⟩
theorem NoP17.lf {v:Value} {w:World} (h:NoP17 v w) (i:Int):NoLf v i w:=by
 rcases h with rfl | ⟨tb,rfl,h2⟩
 · exact no_nil7 i w
 · exact no_zero7 tb i w h2
def k17a:Ab:=ab0.past 0 true 0
def k17b:Ab:=k17a.use 0 true 3
theorem k17_rf:k17a.rf 0 true 0=50∧k17a.rf 0 true 3=0:=by decide
theorem k17_kl:k17b.kl 0 true ((k17b.su 0 true:Int) - 32) 32=[1,2]:=by decide
theorem kNext {w:World} {tb sb rb kb:Nat} (h:LvR w tb sb rb kb 2 lZ ab0) (hT:TabAt w) (hD:DbT w):Calls Tryz.prog 14 #[pA tb 0,.int .i64 0,.bool true] w fun e w'=>∃ q,e = .returned (.tuple #[.int .i64 0,.slice (some ⟨q,0,none⟩) 16 16,.slice (some ⟨q,16,none⟩) 12 12,.int .i64 0])∧LvR w' tb sb rb kb 2 lZ k17a∧TabAt w'∧DbT w'∧But (fun b=>b=sb∨b=rb∨b=kb) w w' :=
 (aNext h hT hD (i:=0) true (by decide) (by decide)).mono fun _ _ ⟨q,q1,_,_,q4,q5⟩=>⟨q,q1,q4,hT.but q5 h.nocell,hD.but q5 h.nocell,q5⟩
theorem kKey {w:World} {tb sb rb kb:Nat} (h:LvR w tb sb rb kb 2 lZ k17a):Calls Tryz.prog 15 #[pA tb 0,.int .i64 0,.bool true,.int .i64 0] w fun e w'=>e = .returned (.tuple #[.slice none 0 0,.slice none 0 0,.int .i64 50])∧Below w.heap.size w w':=by
 have c:=aKey_no h (i:=0) true (by decide) 0 (by rw [k17_rf.1];decide)
 rwa [k17_rf.1] at c
theorem kUse {w:World} {tb sb rb kb:Nat} (h:LvR w tb sb rb kb 2 lZ k17a) (hT:TabAt w) (hD:DbT w):Calls Tryz.prog 18 #[pA tb 0,.int .i64 0,.bool true,.int .i64 3] w fun e w'=>e = .returned (.int .i64 0)∧LvR w' tb sb rb kb 2 lZ k17b∧But (fun b=>b=sb∨b=rb∨b=kb) w w':=by
 have c:=aUse h hT hD (i:=0) true (by decide) 3
 rwa [k17_rf.2] at c
theorem kKept {w:World} {tb sb rb kb:Nat} (h:LvR w tb sb rb kb 2 lZ k17b):Calls Tryz.prog 17 #[pA tb 0,.int .i64 0,.bool true] w fun e w'=>∃ v,e = .returned v∧ZIn w' v [1,2]∧Below w.heap.size w w':=by
 have c:=aKept h (i:=0) true (by decide)
 rwa [k17_kl] at c
set_option maxRecDepth 100000 in
set_option maxHeartbeats 8000000 in
theorem knows17_any (w:World) (hT:TabAt w) (hD:DbT w):Calls Tryz.prog 10 #[] w fun e w'=>e = .returned (.bool true)∧Below w.heap.size w w':=by
 have hm:=make_bytes w 32 32 rfl (by decide)
 obtain ⟨W1,hW1⟩:∃ W,W=w.alloc (.cells (zb 32) 5):=⟨_,rfl⟩
 have b1:Below w.heap.size w W1:=by rw [hW1];exact (Below.refl _ _).alloc (Nat.le_refl _) _
 have k1:RW W1 w.heap.size 0 (ints .u8 32 lZ):=by rw [hW1,zb_32];exact RW.fresh w _ _
 rw [←hW1] at hm
 have cN:Calls Tryz.prog 7 #[.slice (some ⟨w.heap.size,0,none⟩) 32 32,.int .i64 2] W1 fun e w'=>∃ tb sb rb kb,e = .returned (.tuple #[pA tb 0,.int .i64 0])∧LvR w' tb sb rb kb 2 lZ ab0∧Below W1.heap.size W1 w'∧w.heap.size≤sb∧w.heap.size≤rb∧w.heap.size≤kb:=by
  have hl:=b1.size
  exact (aNew w.heap.size 0 32 lZ (fun _=>by show 0<256;decide) (n:=2) (by decide) k1.lt k1.range).mono fun _ _ ⟨q1,q2,_,q4⟩=>⟨_,_,_,_,q1,q2,q4,by omega,by omega,by omega⟩
 clear hW1 k1
 go_enter Tryz.func10,Tryz.ntmps10
 go_wp2_with (first
  | (go_at_call 7;refine cN.mono ?_;clear cN;rintro e w2 ⟨tb,sb,rb,kb,rfl,h2,hb2,n1,n2,n3⟩;have b2:=below_next b1 hb2;have T2:=hT.still b2;have D2:=hD.keep b2;clear hb2 b1)
  | (go_at_call 14;refine (kNext h2 T2 D2).mono ?_;rintro e w3 ⟨q,rfl,h3,T3,D3,hb3⟩;have b3:=(But.ofB (bad:=fun b=>b=sb∨b=rb∨b=kb) b2).trans hb3;clear h2 T2 D2 hb3 b2)
  | (go_at_call 15;refine (kKey h3).mono ?_;rintro e w4 ⟨rfl,hb4⟩;replace h3:=h3.still hb4;replace T3:=T3.still hb4;replace D3:=D3.keep hb4;replace b3:=b3.trans (But.ofB hb4);clear hb4)
  | (go_at_call 18;refine (kUse h3 T3 D3).mono ?_;rintro e w5 ⟨rfl,h5,hb5⟩;replace b3:=b3.trans hb5;clear h3 T3 D3 hb5)
  | (go_at_call 9;refine (num17_any _ _).mono ?_;rintro e wn ⟨rfl,hwn⟩;obtain rfl:=hwn.symm)
  | (go_at_call 17;refine (kKept h5).mono ?_;clear h5;rintro e w6 ⟨v6,rfl,z6,hb6⟩;have ba:=(Below.refl w6.heap.size w6).alloc (Nat.le_refl _) (.cells #[.int .i64 1,.int .i64 2] 3);have k6:=ints_same v6 _ [1,2] (by decide) _ (z6.keep ba) (z_two w6 1 2);replace b3:=b3.trans (But.ofB (below_next hb6 ba));clear z6 hb6 ba)
  | (go_at_call 22;refine k6.mono ?_;clear k6;rintro e w7 ⟨rfl,hb7⟩;replace b3:=b3.trans (But.ofB hb7);clear hb7))
 go_ret
 exact ⟨rfl,b3.below (Nat.le_refl _) (fun k e=>by omega)⟩
end Go.Proofs.YtbbikhlbkpjpjaaGreatDoor
namespace Go.Proofs.YtbbikhlbkpjpjaaGreatDoor
open Go.RowKit
def fit17 (n:Nat) (bs:Nat→Nat) (j:Nat):Nat:=if j<n then bs j else 0
theorem fit17_lt {n:Nat} {bs:Nat→Nat} (h:∀ j,bs j<256) (j:Nat):fit17 n bs j<256:=by
 unfold fit17;split
 · exact h j
 · decide
theorem infoByte17:(Tryz.prog.info? 5).map (·.size)=some 1:=by kernel_rfl
theorem row_ints {w:World} {g n:Nat} {X:Nat→Nat} (h:RowAt .u8 w g 0 n X):w.rangeAt g 0 (ints .u8 n X):=by
 intro j v hv
 have hj:j<n:=by
  have:=(List.getElem?_eq_some_iff.1 hv).1
  rwa [ints_len] at this
 rw [ints_at .u8 n X j hj] at hv
 obtain rfl:=Option.some.inj hv
 have h2:=(h j hj).1
 rw [Nat.zero_add] at h2 ⊢
 exact h2
set_option maxRecDepth 20000 in
theorem fit17_any (v:Value) (n:Nat) (bs:Nat→Nat) (w:World) (hv:BytesIn w v n bs):Calls Tryz.prog 19 #[v] w fun e w'=>e = .returned (.slice (some ⟨w.heap.size,0,none⟩) 32 32)∧w.heap.size<w'.heap.size∧w'.rangeAt w.heap.size 0 (ints .u8 32 (fit17 n bs))∧Below w.heap.size w w':=by
 have hmk:=make_bytes w 32 32 rfl (by decide)
 obtain ⟨W,hW⟩:∃ W,W=w.alloc (.cells (zb 32) 5):=⟨_,rfl⟩
 have hrow:RowAt .u8 W w.heap.size 0 32 (fun _=>0):=by rw [hW];exact RowAt.fresh (fun j hj=>zb_at 32 j hj)
 have hb:Below w.heap.size w W:=by rw [hW];exact (Below.refl _ _).alloc (Nat.le_refl _) _
 have hs:W.heap.size=w.heap.size+1:=by rw [hW];simp
 obtain ⟨xo,c,rfl,hxn,hnc,hsrc⟩:=hv.src
 have src:=hsrc W hb
 have hth:=hrow.there
 obtain ⟨m,hm⟩:∃ m,m=Nat.min n 32:=⟨_,rfl⟩
 have hsp:=hrow.splice 0 m bs (by rw [hm,Nat.zero_add];exact Nat.min_le_right _ _)
 rw [←hW] at hmk
 have Hm:=Hid.mk' hm
 have Hs:=Hid.mk' hs
 clear hW hv hsrc hm hs
 go_enter Tryz.func19,Tryz.ntmps19
 go_wp2_with (first
  | rw [hmk]
  | (refine wpList_copy_bytes rfl _ _ 22 22 rfl 5 Tryz.underlying22 infoByte17 w.heap.size 0 32 32 xo n c rfl rfl m bs src Hm.out hth ?_))
 go_ret
 refine ⟨rfl,by rw [(setCells_same _ _ _ _).2.2.2,Hs.out];omega,row_ints (hsp.congr (fun j hj => ?_)),below_setCells (Nat.le_refl _) _ _ _ hb⟩
 have:=Hm.out
 unfold over fit17
 by_cases e:j<n
 · rw [if_pos ⟨Nat.zero_le _,by rw [Nat.zero_add,this];exact Nat.lt_min.2 ⟨e,hj⟩⟩,if_pos e,Nat.sub_zero]
 · rw [if_neg (fun h=>by have h2:=h.2;rw [Nat.zero_add,this] at h2;exact e (Nat.lt_min.1 h2).1),if_neg e]
theorem norm17 (x:Int) (m:Nat) (hm:0<m) (hm2:m<1000):∃ z:Nat,z<m∧Int.tmod (wrap64 (Int.tmod x (m:Int)+(m:Int))) (m:Int)=(z:Int):=by
 have h1:=Int.tmod_lt_of_pos x (show (0:Int)<(m:Int) by omega)
 have h2:=Int.lt_tmod_of_pos x (show (0:Int)<(m:Int) by omega)
 have e1:wrap64 (Int.tmod x (m:Int)+(m:Int))=Int.tmod x (m:Int)+(m:Int):=by unfold wrap64;omega
 rw [e1]
 have h3:=Int.tmod_nonneg (m:Int) (show 0≤Int.tmod x (m:Int)+(m:Int) by omega)
 have h4:=Int.tmod_lt_of_pos (Int.tmod x (m:Int)+(m:Int)) (show (0:Int)<(m:Int) by omega)
 exact ⟨(Int.tmod (Int.tmod x (m:Int)+(m:Int)) (m:Int)).toNat,by omega,by omega⟩
structure Op17 where
 kd:Int
 lf:Int
 gn:Int
 tx:Bool
def Op17.row (q:Op17):List Value:=[.int .i64 q.kd,.int .i64 q.lf,.int .i64 q.gn,.bool q.tx]
def OpsAt17 (w:World) (v:Value) (ss:List Op17):Prop:=∃ xo c,v = .slice xo ss.length c∧∀ (j:Nat) s,ss[j]? = some s→∃ g o,xo=some ⟨g,o,none⟩∧g<w.heap.size∧w.rangeAt g (o+j*4) s.row
theorem Ab.use_su (a:Ab) {i j:Nat} {t u:Bool} (h:¬(j=i∧u=t)) (g:Int):(a.use i t g).su j u=a.su j u:=by
 unfold Ab.use
 split
 · rfl
 · split
   · rfl
   · show (if j=i∧u=t then g.toNat+1 else a.su j u)=_
     rw [if_neg h]
end Go.Proofs.YtbbikhlbkpjpjaaGreatDoor
namespace Go.Proofs.YtbbikhlbkpjpjaaGreatDoor
open Go.RowKit
theorem LvR.but {w w':World} {tb sb rb kb n:Nat} {R:Nat→Nat} {a:Ab} {bad:Nat→Prop} (h:LvR w tb sb rb kb n R a) (hb:But bad w w') (hn:¬bad tb∧¬bad sb∧¬bad rb∧¬bad kb):LvR w' tb sb rb kb n R a:=by
 obtain ⟨op,S,h1,h2⟩:=h
 obtain ⟨n1,n2,n3,n4⟩:=hn
 refine ⟨op,S,h1,h2.at_eq (fun b e => ?_)⟩
 rcases e with rfl | rfl | rfl | rfl
 · exact hb.block _ h2.lt n1
 · exact hb.block _ h2.ms.lt n2
 · exact hb.block _ h2.mr.lt n3
 · exact hb.block _ h2.mq.lt n4
theorem LvR.lts {w:World} {tb sb rb kb n:Nat} {R:Nat→Nat} {a:Ab} (h:LvR w tb sb rb kb n R a):tb<w.heap.size∧sb<w.heap.size∧rb<w.heap.size∧kb<w.heap.size:=by
 obtain ⟨op,S,-,h2⟩:=h
 exact ⟨h2.lt,h2.ms.lt,h2.mr.lt,h2.mq.lt⟩
theorem kNew {w:World} (g o c:Nat) (R:Nat→Nat) (hR:∀ j,R j<256) {n:Nat} (hn:n∈wids7) (hg:g<w.heap.size) (hs:w.rangeAt g o (ints .u8 32 R)) :
 Calls Tryz.prog 7 #[.slice (some ⟨g,o,none⟩) 32 c,.int .i64 (n:Int)] w fun e w'=>∃ tb sb rb kb,e = .returned (.tuple #[pA tb 0,.int .i64 0])∧LvR w' tb sb rb kb n R ab0∧Below w.heap.size w w'∧(w.heap.size≤tb∧w.heap.size≤sb∧w.heap.size≤rb∧w.heap.size≤kb) :=
 (aNew g o c R hR hn hg hs).mono fun _ _ ⟨q1,q2,_,q4⟩=>⟨_,_,_,_,q1,q2,q4,by omega,by omega,by omega,by omega⟩
theorem ky_cs {w:World} {q:Nat} {A B:Nat→Nat} (h:RW w q 0 (kyL A B)) (hA:∀ j,A j<256) (hB:∀ j,B j<256):Cs w (.slice (some ⟨q,0,none⟩) 16 16) (strB 16 A)∧Cs w (.slice (some ⟨q,16,none⟩) 12 12) (strB 12 B):=by
 have p1:RW w q 0 (ints .u8 16 A):=h.left
 have p2:RW w q 16 (ints .u8 12 B):=by have h:=h.right;rwa [ints_len] at h
 exact ⟨(row_bytes p1.range (by decide)).cs hA,(row_bytes p2.range (by decide)).cs hB⟩
theorem gnK_lt (n:Nat) (R:Nat→Nat) (i:Nat) (t:Bool) (g j:Nat):gnK n R i t g j<256:=rtE_lt ..
theorem gnN_lt (n:Nat) (R:Nat→Nat) (i:Nat) (t:Bool) (g j:Nat):gnN n R i t g j<256:=rtE_lt ..
structure ApJ (w:World) (r1 r2 r3 r4 s1 s2 s3 s4:Nat) (R:Nat→Nat) (i:Nat) (t:Bool) (W:World):Prop where
 r:∃ a:Ab,a.su i t=0∧LvR W r1 r2 r3 r4 4 R a
 s:LvR W s1 s2 s3 s4 4 R ab0
 b:Below w.heap.size w W
 rn:w.heap.size≤r1∧w.heap.size≤r2∧w.heap.size≤r3∧w.heap.size≤r4
 sn:w.heap.size≤s1∧w.heap.size≤s2∧w.heap.size≤s3∧w.heap.size≤s4
 ap:∀ x,(x=s1∨x=s2∨x=s3∨x=s4)→x≠r1∧x≠r2∧x≠r3∧x≠r4
theorem ApJ.still {w:World} {r1 r2 r3 r4 s1 s2 s3 s4:Nat} {R:Nat→Nat} {i:Nat} {t:Bool} {W W':World} (h:ApJ w r1 r2 r3 r4 s1 s2 s3 s4 R i t W) (hb:Below W.heap.size W W'):ApJ w r1 r2 r3 r4 s1 s2 s3 s4 R i t W':=by
 obtain ⟨a,h1,h2⟩:=h.r
 exact ⟨⟨a,h1,h2.still hb⟩,h.s.still hb,below_next h.b hb,h.rn,h.sn,h.ap⟩
theorem ApJ.use {w:World} {r1 r2 r3 r4 s1 s2 s3 s4:Nat} {R:Nat→Nat} {i:Nat} {t:Bool} {W:World} (h:ApJ w r1 r2 r3 r4 s1 s2 s3 s4 R i t W) (hT:TabAt w) (hD:DbT w) {j:Nat} {u:Bool} (hj:j<4) (hne:¬(i=j∧t=u)) (g:Int) :
 Calls Tryz.prog 18 #[pA r1 0,.int .i64 (j:Int),.bool u,.int .i64 g] W fun e W'=>(∃ z,e = .returned (.int .i64 z))∧ApJ w r1 r2 r3 r4 s1 s2 s3 s4 R i t W':=by
 obtain ⟨a,h1,h2⟩:=h.r
 have c:=aUse h2 (hT.still h.b) (hD.keep h.b) u hj g
 refine c.mono ?_
 rintro e W' ⟨q1,q2,q3⟩
 have a1:=h.ap s1 (.inl rfl)
 have a2:=h.ap s2 (.inr (.inl rfl))
 have a3:=h.ap s3 (.inr (.inr (.inl rfl)))
 have a4:=h.ap s4 (.inr (.inr (.inr rfl)))
 have hrn:=h.rn
 have hs:=h.s.but q3 ⟨fun e=>Or.elim e a1.2.1 (fun e=>Or.elim e a1.2.2.1 a1.2.2.2),fun e=>Or.elim e a2.2.1 (fun e=>Or.elim e a2.2.2.1 a2.2.2.2),fun e=>Or.elim e a3.2.1 (fun e=>Or.elim e a3.2.2.1 a3.2.2.2),fun e=>Or.elim e a4.2.1 (fun e=>Or.elim e a4.2.2.1 a4.2.2.2)⟩
 have hb:=h.b.trans (q3.below h.b.size (fun x e=>Or.elim e (fun e=>Nat.le_trans hrn.2.1 (Nat.le_of_eq e.symm)) (fun e=>Or.elim e (fun e=>Nat.le_trans hrn.2.2.1 (Nat.le_of_eq e.symm)) (fun e=>Nat.le_trans hrn.2.2.2 (Nat.le_of_eq e.symm)))))
 have hsu:=(a.use_su hne g).trans h1
 refine ⟨⟨_,q1⟩,?_⟩
 exact ⟨⟨a.use j u g,hsu,q2⟩,hs,hb,h.rn,h.sn,h.ap⟩
end Go.Proofs.YtbbikhlbkpjpjaaGreatDoor
