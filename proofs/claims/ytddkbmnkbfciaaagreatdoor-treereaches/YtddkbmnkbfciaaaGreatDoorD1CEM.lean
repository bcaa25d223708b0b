/- What the proof stands on: D1CE, N3A, ZD, N3R, N3B, N3C. -/
import Derived.Test.YtddkbmnkbfciaaaGreatDoorEqNM
import Derived.Test.YtddkbmnkbfciaaaGreatDoorZAb2M
import Derived.Laws.EntriesVeiled
import Derived.Recover
import Derived.WalkLawsBesides
namespace Go.Proofs.YtddkbmnkbfciaaaGreatDoor
open Go.RowKit
def Parts (w:World) (gp cnt m:Nat) (t:Nat→Nat):Prop:=∃ (pvs:Nat→Value) (L:Nat→Nat),L 0=0∧L cnt=m∧∀ i,i<cnt→w.cell? ⟨gp,i,none⟩=some (pvs i)∧L i≤L (i+1)∧L (i+1)≤m∧BytesIn w (pvs i) (L (i+1) - L i) (fun j=>t (L i+j))
set_option maxRecDepth 20000 in
set_option maxHeartbeats 8000000 in
theorem concat_parts (gp cnt m:Nat) (t:Nat→Nat) (w:World) (hP:Parts w gp cnt m t) (hcnt:cnt≤1000) (hsum:m≤1000000) (h0:0<m) :
 Calls Tryz.prog 130 #[.slice (some ⟨gp,0,none⟩) cnt cnt] w fun e w'=>∃ s,e = .returned s∧Own w.heap.size w' s m t∧Below w.heap.size w w':=by
 obtain ⟨pvs,L,p0,p1,p2⟩:=hP
 have P2:=Hid.mk' p2
 clear p2
 have hg:=grow_any m h0 hsum w
 go_enter Tryz.func130,Tryz.ntmps130
 go_wp2
 go_loopw [3,11] (fun s i wr=>∃ q T:Nat,q≤cnt∧i = .int .i64 q∧Hid (T=L q)∧s = .int .i64 T∧w=wr) (fun _ i _=>cnt - (intOf i).toNat)
 case atStart=>exact ⟨0,0,Nat.zero_le _,rfl,Hid.mk' p0.symm,rfl,rfl⟩
 case round =>
  obtain ⟨q,T,hq,rfl,HT,rfl,rfl⟩:=hrel
  by_cases hlt:q<cnt
  · obtain ⟨c1,c2,c3,c4⟩:=P2.out q hlt
    obtain ⟨xp,cp,hpv,hxn,hncp,hsrc⟩:=c4.src
    obtain ⟨n,hn⟩:∃ n,n=L (q+1) - L q:=⟨_,rfl⟩
    have hTn:T+n=L (q+1):=by have:=HT.out;omega
    have hTm:T+n≤1000000:=by omega
    have r0:w.cell? ⟨gp,q,none⟩=some (.slice xp n cp):=by rw [c1,hpv,hn]
    have hqi:(0:Int)≤(q:Int)∧(q:Int)<cnt:=by omega
    have hd:decide ((q:Int)<(cnt:Int))=true:=decide_eq_true (by omega)
    have ew:IntKind.i64.wrap ((T:Int)+(n:Int))=(T:Int)+n:=by simp only [IntKind.wrap_i64];omega
    have en:¬((T:Int)+(n:Int)<0):=by omega
    have HN:Hid (T+n=L (q+1)):=hTn
    clear hn hTn c1 c2 c3 c4 hpv hsrc hg p0 p1
    go_wp2
    go_roundw
    case rel=>exact ⟨q+1,T+n,by omega,by go_num,Hid.mk' HN.out,by simp,by first | rfl | trivial⟩
    case measure=>simp [intOf];omega
  · have hqe:q=cnt:=by omega
    subst hqe
    have hTm:T=m:=by rw [HT.out,p1]
    subst hTm
    go_wp2_with (go_at_call 186;refine hg.mono ?_;clear hg;rintro e w1 ⟨g1,cap1,rfl,own1,hb1⟩)
    have hd0:decide ((q:Int)<(q:Int))=false:=decide_eq_false (by omega)
    try rw [hd0]
    clear hd0 hlt HT
    go_loopw [6,27] (fun ns i wr=>∃ r A:Nat,r≤q∧i = .int .i64 r∧Hid (A=L r)∧Own w.heap.size wr ns A t∧Below w.heap.size w wr) (fun _ i _=>q - (intOf i).toNat)
    case atStart=>exact ⟨0,0,Nat.zero_le _,rfl,Hid.mk' p0.symm,own1.congr (fun j hj=>absurd hj (Nat.not_lt_zero j)),hb1⟩
    case round =>
     clear own1 hb1
     obtain ⟨r,A,hr,rfl,HA,own,hbw⟩:=hrel
     by_cases hlt:r<q
     · obtain ⟨c1,c2,c3,c4⟩:=P2.out r hlt
       obtain ⟨xp,cp,hpv,hxn,hncp,hsrc⟩:=c4.src
       obtain ⟨n,hn⟩:∃ n,n=L (r+1) - L r:=⟨_,rfl⟩
       have hTn:A+n=L (r+1):=by have:=HA.out;omega
       have hTm:A+n≤1000000:=by omega
       have r0:wr.cell? ⟨gp,r,none⟩=some (.slice xp n cp):=by rw [hbw.cell (p:=⟨gp,r,none⟩) (block_lt_of_cell c1),c1,hpv,hn]
       have hcg:∀ z,z<A+n→cat A t (fun j=>t (L r+j)) z=t z:=fun z hz=>by
        have:=HA.out
        unfold cat
        by_cases e:z<A
        · rw [if_pos e]
        · rw [if_neg e]
          show t (L r+(z - A))=t z
          rw [show L r+(z - A)=z by omega]
       have src:=hsrc wr hbw
       rw [←hn] at src
       obtain ⟨Y,hY⟩:∃ Y:Nat→Nat,Y=fun j=>t (L r+j):=⟨_,rfl⟩
       rw [←hY] at src hcg
       have hqi:(0:Int)≤(r:Int)∧(r:Int)<q:=by omega
       have hd:decide ((r:Int)<(q:Int))=true:=decide_eq_true (by omega)
       have hsz:=hbw.size
       have HN:Hid (A+n=L (r+1)):=hTn
       clear hn hTn c1 c2 c3 c4 hpv hsrc p0 p1 hY
       go_wp2_with (at_builtin;refine wpList_append_bytes rfl (.tmp 31) (.tmp 32) rfl w.heap.size u6 A t rfl own xp n cp Y rfl src hxn (by omega) hsz ?_;intro v6 w6 own6 grow6;(have hb6:Below w.heap.size w w6:=Own.grown hbw grow6 own (Nat.le_refl _) hsz))
       go_roundw
       case rel=>exact ⟨r+1,A+n,by omega,by go_num,Hid.mk' HN.out,own6.congr hcg,hb6⟩
       case measure=>simp [intOf];omega
     · have hqe:r=q:=by omega
       subst hqe
       have hA:=HA.out
       rw [p1] at hA
       go_wp2
       go_ret
       exact ⟨_,rfl,by rw [←hA];exact own,hbw⟩
theorem BytesIn.cong {w:World} {v:Value} {n:Nat} {a b:Nat→Nat} (h:BytesIn w v n a) (e:∀ j,j<n→a j=b j):BytesIn w v n b:=by
 rcases h with h | ⟨bb,ob,cap,rfl,h1,h2,h3⟩
 · exact .inl h
 · exact .inr ⟨bb,ob,cap,rfl,h1,h2,fun j hj=>by rw [h3 j hj,e j hj]⟩
theorem parts_two (w:World) (v u:Value) (n m:Nat) (t s:Nat→Nat) (ty:TypeId) (h1:BytesIn w v n t) (h2:BytesIn w u m s):Parts (w.alloc (.cells #[v,u] ty)) w.heap.size 2 (n+m) (cat n t s):=by
 have b:=(Below.refl _ w).alloc (Nat.le_refl _) (.cells #[v,u] ty)
 refine ⟨fun i=>if i=0 then v else u,fun i=>if i=0 then 0 else if i=1 then n else n+m,rfl,rfl,fun i hi => ?_⟩
 rcases (show i=0∨i=1 by omega) with rfl | rfl
 · refine ⟨by simp,Nat.zero_le _,Nat.le_add_right _ _,?_⟩
   show BytesIn _ v (n - 0) (fun j=>cat n t s (0+j))
   rw [Nat.sub_zero]
   exact (h1.keep b).cong fun j hj=>by rw [Nat.zero_add,cat_left hj]
 · refine ⟨by simp,Nat.le_add_right _ _,Nat.le_refl _,?_⟩
   show BytesIn _ u (n+m - n) (fun j=>cat n t s (n+j))
   rw [Nat.add_sub_cancel_left]
   exact (h2.keep b).cong fun j hj=>by rw [cat_right]
theorem cVec11_size (v:Value) (n:Nat) (b:Nat→Nat) (hn:65536<n) (w:World) (hv:BytesIn w v n b):Calls Tryz.prog 57 #[v] w fun e w'=>e = .returned (.tuple #[.slice none 0 0,.int .i64 6])∧Below w.heap.size w w':=by
 obtain ⟨x1,c1,rfl,-,-,-⟩:=hv.src
 clear hv
 have t1:(65536:Int)<(n:Int):=by omega
 clear hn
 go_enter Tryz.func57,Tryz.ntmps57
 go_wp2
 go_ret2
 exact ⟨rfl,Below.refl _ _⟩
set_option maxRecDepth 20000 in
set_option maxHeartbeats 4000000 in
theorem cVec11_good (v:Value) (n:Nat) (b:Nat→Nat) (hn:n≤65536) (w:World) (hv:BytesIn w v n b):Calls Tryz.prog 57 #[v] w fun e w'=>∃ s,e = .returned (.tuple #[s,.int .i64 0])∧Own w.heap.size w' s (vcL n) (vcB n b)∧Below w.heap.size w w':=by
 have HV:=Hid.mk' hv
 obtain ⟨x1,c1,rfl,-,-,-⟩:=hv.src
 clear hv
 have cl:=cLen11_good n (by omega) w
 have hs:=lnS_pos n
 obtain ⟨z,hz⟩:∃ z:Int,z=(n:Int):=⟨_,rfl⟩
 have t1:¬(65536:Int)<(n:Int):=by omega
 have hL:vcL n≤1000000:=by unfold vcL;omega
 have h0:0<vcL n:=by unfold vcL;omega
 clear hn hz hs
 go_enter Tryz.func57,Tryz.ntmps57
 go_wp2_with (first
  | (go_at_call 129;refine cl.mono ?_;clear cl;rintro e w1 ⟨h1,rfl,hh1,b1⟩;(obtain ⟨x2,c2,e2,-,-,-⟩:=hh1.src);subst e2;(have hP:=parts_two w1 _ _ _ _ _ _ 29 hh1 (HV.out.keep b1));(have cc:=concat_parts w1.heap.size 2 (vcL n) (vcB n b) _ hP (by decide) hL h0);clear hP)
  | (go_at_call 130;refine cc.mono ?_;clear cc;rintro e w2 ⟨s,rfl,own2,b2⟩))
 go_ret2
 have ba:=below_next b1 ((Below.refl w1.heap.size w1).alloc (Nat.le_refl _) (.cells #[.slice x2 (lnS n) c2,.slice x1 n c1] 29))
 exact ⟨s,rfl,World.ownsRow.mono own2 ba.size,below_next ba b2⟩
end Go.Proofs.YtddkbmnkbfciaaaGreatDoor
namespace Go.Proofs.YtddkbmnkbfciaaaGreatDoor
open Go.RowKit
def noB:ByteArray:={ data:=#[97,32,110,111,100,101,32,116,104,97,116,32,109,97,121,32,110,111,116,32,98,101] }
def noE:List PanicEntry:=[{ v := .iface 9 (.string noB),recovered:=false }]
theorem must_t (w:World):Calls Tryz.prog 238 #[.bool true] w fun e w'=>e = .returned (.tuple #[])∧w'=w:=by
 go_enter Tryz.func238,Tryz.ntmps238
 go_wp2
 go_end0
 exact ⟨rfl,rfl⟩
theorem must_f (w:World):Calls Tryz.prog 238 #[.bool false] w fun e w'=>e = .panicked noE∧w'=w:=by
 go_enter Tryz.func238,Tryz.ntmps238
 go_wp2
 exact ⟨rfl,rfl,rfl⟩
theorem sure_ok (v:Value) (w:World):Calls Tryz.prog 266 #[v,.int .i64 0] w fun e w'=>e = .returned v∧w'=w:=by
 have c:=must_t
 go_enter Tryz.func266,Tryz.ntmps266
 go_wp2_with (go_at_call 238;refine (c _).mono ?_;rintro e w1 ⟨rfl,hw⟩;obtain rfl:=hw.symm)
 go_ret
 exact ⟨rfl,rfl⟩
set_option maxRecDepth 20000 in
theorem vAl (q1 q2 q3 p o:Nat) (x:Option Addr) (n c:Nat) (least most:Int) (w:World) (h1:w.cell? ⟨q1,0,none⟩=some (pA p o)) (h2:w.cell? ⟨q2,0,none⟩=some (.int .i64 least)) (h3:w.cell? ⟨q3,0,none⟩=some (.int .i64 most)) (hp:w.cell? ⟨p,o,none⟩=some (.slice x n c)) :
 Calls Tryz.prog 264 #[pA q1 0,pA q2 0,pA q3 0] w fun e w'=>e = .returned (.bool (decide (least≤(n:Int)) && decide ((n:Int)≤most)))∧Below w.heap.size w w':=by
 by_cases hl:least≤(n:Int)
 · by_cases hm:(n:Int)≤most
   · go_enter Tryz.func264,Tryz.ntmps264
     go_wp2
     go_region
     go_wp2
     go_ret
     exact ⟨by simp [hl,hm],(Below.refl _ _).drew⟩
   · go_enter Tryz.func264,Tryz.ntmps264
     go_wp2
     go_region
     go_wp2
     go_ret
     exact ⟨by simp [hl],(Below.refl _ _).drew⟩
 · have hd:decide (least≤(n:Int))=false:=by simp [hl]
   go_enter Tryz.func264,Tryz.ntmps264
   go_wp2
   go_region
   go_wp2
   go_ret
   exact ⟨by rw [hd];rfl,(Below.refl _ _).drew⟩
theorem vPut (q1 p o:Nat) (v:Value) (n:Nat) (b:Nat→Nat) (hn:n≤65536) (w:World) (h1:w.cell? ⟨q1,0,none⟩=some (pA p o)) (hp:w.cell? ⟨p,o,none⟩=some v) (hv:BytesIn w v n b) :
 Calls Tryz.prog 265 #[pA q1 0] w fun e w'=>∃ s,e = .returned s∧Own w.heap.size w' s (vcL n) (vcB n b)∧Below w.heap.size w w':=by
 have c1:=cVec11_good v n b hn w hv
 have c2:=sure_ok
 go_enter Tryz.func265,Tryz.ntmps265
 go_wp2_with (first
  | (go_at_call 57;refine c1.mono ?_;clear c1;rintro e w1 ⟨s,rfl,o1,b1⟩)
  | (go_at_call 266;refine (c2 _ _).mono ?_;clear c2;rintro e w2 ⟨rfl,hw⟩;obtain rfl:=hw.symm))
 go_ret
 exact ⟨_,rfl,o1,b1⟩
theorem h32 (n:Nat):((n:Int) == 0 || (n:Int) == 32)=(decide (n=0) || decide (n=32)):=by
 rw [Bool.eq_iff_iff];simp only [Bool.or_eq_true,beq_iff_eq,decide_eq_true_eq];omega
set_option maxRecDepth 20000 in
theorem hAl (q1 p o:Nat) (x:Option Addr) (n c:Nat) (w:World) (h1:w.cell? ⟨q1,0,none⟩=some (pA p o)) (hp:w.cell? ⟨p,o,none⟩=some (.slice x n c)) :
 Calls Tryz.prog 268 #[pA q1 0] w fun e w'=>e = .returned (.bool (decide (n=0) || decide (n=32)))∧Below w.heap.size w w':=by
 by_cases h0:n=0
 · subst h0
   go_enter Tryz.func268,Tryz.ntmps268
   go_wp2
   go_ret
   exact ⟨by simp,Below.refl _ _⟩
 · have h2:¬(n:Int)=0:=by omega
   go_enter Tryz.func268,Tryz.ntmps268
   go_wp2
   go_ret
   exact ⟨by rw [h32];rfl,Below.refl _ _⟩
set_option maxRecDepth 20000 in
theorem nAl (q1 q2 q3 p o:Nat) (z:Int) (least most:Int) (w:World) (h1:w.cell? ⟨q1,0,none⟩=some (pA p o)) (h2:w.cell? ⟨q2,0,none⟩=some (.int .i64 least)) (h3:w.cell? ⟨q3,0,none⟩=some (.int .i64 most)) (hp:w.cell? ⟨p,o,none⟩=some (.int .i64 z)) :
 Calls Tryz.prog 287 #[pA q1 0,pA q2 0,pA q3 0] w fun e w'=>e = .returned (.bool (decide (least≤z) && decide (z≤most)))∧Below w.heap.size w w':=by
 by_cases hl:least≤z
 · by_cases hm:z≤most
   · go_enter Tryz.func287,Tryz.ntmps287
     go_wp2
     go_region
     go_wp2
     go_ret
     exact ⟨by simp [hl,hm],(Below.refl _ _).drew⟩
   · go_enter Tryz.func287,Tryz.ntmps287
     go_wp2
     go_region
     go_wp2
     go_ret
     exact ⟨by simp [hl],(Below.refl _ _).drew⟩
 · have hd:decide (least≤z)=false:=by simp [hl]
   go_enter Tryz.func287,Tryz.ntmps287
   go_wp2
   go_region
   go_wp2
   go_ret
   exact ⟨by rw [hd];rfl,(Below.refl _ _).drew⟩
set_option maxRecDepth 20000 in
theorem nPut (q1 q2 p o:Nat) (z s:Nat) (hs:szB s=true) (hz:z<mstN s) (w:World) (h1:w.cell? ⟨q1,0,none⟩=some (pA p o)) (h2:w.cell? ⟨q2,0,none⟩=some (.int .i64 (s:Int))) (hp:w.cell? ⟨p,o,none⟩=some (.int .i64 (z:Int))) (l1:q1<w.heap.size) (l2:q2<w.heap.size) (lp:p<w.heap.size) :
 Calls Tryz.prog 288 #[pA q1 0,pA q2 0] w fun e w'=>∃ u,e = .returned u∧BytesIn w' u s (beN z s)∧Below w.heap.size w w':=by
 have c1:=cNum11_good z s hs hz w.drew
 have c2:=sure_ok
 obtain ⟨a,ha⟩:∃ a:Int,a=(z:Int):=⟨_,rfl⟩
 obtain ⟨b,hb⟩:∃ b:Int,b=(s:Int):=⟨_,rfl⟩
 rw [←ha,←hb] at c1
 rw [←ha] at hp
 rw [←hb] at h2
 clear ha hb
 go_enter Tryz.func288,Tryz.ntmps288
 go_wp2
 refine wp_region_held_drew (S:=fun u=>Below w.drew.heap.size w.drew u) (by kernel_rfl) (Below.refl _ _) (fun hS => ?_)
 refine tc 0 hS (fun u hu=>(hu.cell (p:=⟨q1,0,none⟩) l1).trans h1) ?_
 (try simp only [pS])
 refine tg 1 hS ?_
 (try simp only [pS])
 refine tc 2 hS (fun u hu=>(hu.cell (p:=⟨p,o,none⟩) lp).trans hp) ?_
 (try simp only [pS])
 refine tc 3 hS (fun u hu=>(hu.cell (p:=⟨q2,0,none⟩) l2).trans h2) ?_
 (try simp only [pS])
 refine cn 4 c1 (fun e w' hr => ?_)
 obtain ⟨v,rfl,hv,b1⟩:=hr
 refine ⟨_,rfl,b1,?_⟩
 (try simp only [pS])
 have hS:=bR (w:=w')
 refine tg 5 hS ?_
 (try simp only [pS])
 refine tg 6 hS ?_
 (try simp only [pS])
 refine cn 7 (c2 v w') (fun e w2 hr => ?_)
 obtain ⟨rfl,rfl⟩:=hr
 refine ⟨_,rfl,hS,?_⟩
 (try simp only [pS])
 refine tg 8 hS ?_
 (try simp only [pS])
 refine wpAnyH_done (by kernel_rfl) ?_ _
 go_wp2
 go_ret
 exact ⟨_,rfl,hv,below_next (Below.refl _ _).drew b1⟩
theorem uPut (w:World):Calls Tryz.prog 300 #[] w fun e w'=>e = .returned (.slice none 0 0)∧w'=w:=by
 go_enter Tryz.func300,Tryz.ntmps300
 go_wp2
 go_ret
 exact ⟨rfl,rfl⟩
end Go.Proofs.YtddkbmnkbfciaaaGreatDoor
namespace Go.Proofs.YtddkbmnkbfciaaaGreatDoor
open Go.RowKit
section
variable {P:Program} {md:Region.Mode} {ops:Array Oper} {Q:Exit→Act→World→Prop} {S:World→Prop} {fuel:Nat} {listed:Array Bool} {a:Act} {w:World}
theorem aG {i:Nat} {rs:List Nat} (oi:Oper) (v:Nat→Value) (cs:List Value) (t:TypeId) (hk:∀ u,Below w.heap.size w u→S u) (h:∀ w1 g,w.heap.size≤g→Below w.heap.size w w1→RW w1 g 0 cs→wpAnyH P md ops Q S fuel (listed.setIfInBounds i true) (a.put oi.dst (v g)) w1) (hs:AllReadyH P md ops Q S fuel listed a w rs)
 (hrun:(execOp a.eval oi).run P w = .ok (.value (v w.heap.size)) (w.alloc (.cells cs.toArray t)):=by kernel_rfl) (hi:ops[i]? = some oi:=by rfl) (hw:Region.wanted oi (yielded ops a.tmps)=true:=by rfl):AllReadyH P md ops Q S fuel listed a w (i :: rs):=by
 have hb:Below w.heap.size w (w.alloc (.cells cs.toArray t)):=bR.alloc (Nat.le_refl _) _
 refine AllReadyH.cons hi (fun K hK => ?_) hs
 rw [if_pos hw]
 unfold Oper.wp
 rw [hrun,Oper.upon_value]
 exact hK.out _ _ (hk _ hb) (fun _=>h _ _ (Nat.le_refl _) hb (RW.fresh w cs t))
theorem aL {i:Nat} {rs:List Nat} (oi:Oper) (ty k:Nat) {g off:Nat} {cs:List Value} {d:TypeDesc} (r:RW w g off cs) (hS:S w) (hu:P.underlying ty=some d) (hin:(P.info? ty).map (·.size)=some cs.length) (h:wpAnyH P md ops Q S fuel (listed.setIfInBounds i true) (a.put oi.dst (.agg cs.toArray)) w) (hs:AllReadyH P md ops Q S fuel listed a w rs)
 (hd:d.isRow=true:=by rfl) (ho:oi.op = .load ty (.tmp k):=by rfl) (hx:a.eval (.tmp k) = .pointer (some ⟨g,off,none⟩):=by rfl) (hi:ops[i]? = some oi:=by rfl) (hw:Region.wanted oi (yielded ops a.tmps)=true:=by rfl):AllReadyH P md ops Q S fuel listed a w (i :: rs):=by
 refine AllReadyH.cons hi (fun K hK => ?_) hs
 rw [if_pos hw]
 exact wp_load_mid ty _ ho g off hx cs d r.range hu hd hin (hK.out _ _ hS (fun _=>h))
theorem aT {i:Nat} {rs:List Nat} (oi:Oper) (ty x y:Nat) {g off:Nat} {cs:List Value} (ds:List Value) (r:RW w g off cs) (hl:ds.length=cs.length) (hk:S (w.setCells g off ds)) (hin:(P.info? ty).map (·.size)=some ds.toArray.size) (h1:ds.toArray.all (·.oneCell')=true) (h:RW (w.setCells g off ds) g off ds→wpAnyH P md ops Q S fuel (listed.setIfInBounds i true) (a.put oi.dst undef) (w.setCells g off ds)) (hs:AllReadyH P md ops Q S fuel listed a w rs)
 (ho:oi.op = .store ty (.tmp x) (.tmp y):=by rfl) (hx:a.eval (.tmp x) = .pointer (some ⟨g,off,none⟩):=by rfl) (hy:a.eval (.tmp y) = .agg ds.toArray:=by rfl) (hi:ops[i]? = some oi:=by rfl) (hw:Region.wanted oi (yielded ops a.tmps)=true:=by rfl):AllReadyH P md ops Q S fuel listed a w (i :: rs):=by
 refine AllReadyH.cons hi (fun K hK => ?_) hs
 rw [if_pos hw]
 exact wp_store_mid ty _ _ ho g off ds.toArray hx hy (by rw [List.size_toArray,hl];exact r.there) hin h1 (hK.out _ _ hk (fun _=>h (r.stored ds hl)))
end
end Go.Proofs.YtddkbmnkbfciaaaGreatDoor
namespace Go.Proofs.YtddkbmnkbfciaaaGreatDoor
open Go.RowKit
structure Rest (X:List Nat) (w w':World):Prop where
 os:w'.os=w.os
 tape:w'.tape=w.tape
 output:w'.output=w.output
 size:w.heap.size≤w'.heap.size
 block:∀ k,k<w.heap.size→k ∉ X→w'.heap[k]? = w.heap[k]?
theorem Rest.refl (X:List Nat) (w:World):Rest X w w:=⟨rfl,rfl,rfl,Nat.le_refl _,fun _ _ _=>rfl⟩
theorem Rest.trans {X:List Nat} {u v w:World} (h:Rest X u v) (k:Rest X v w):Rest X u w :=
 ⟨k.os.trans h.os,k.tape.trans h.tape,k.output.trans h.output,Nat.le_trans h.size k.size,fun i hi hb=>(k.block i (Nat.lt_of_lt_of_le hi h.size) hb).trans (h.block i hi hb)⟩
theorem Rest.of_below {X:List Nat} {w w':World} (h:Below w.heap.size w w'):Rest X w w':=⟨h.os,h.tape,h.output,h.size,fun k hk _=>h.block k hk⟩
theorem Rest.of_out {X:List Nat} {b o n:Nat} {w w':World} (h:Out b o n w w') (hb:b∈X):Rest X w w':=⟨h.os,h.tape,h.output,h.size,fun k hk hn=>h.block k hk (fun e=>hn (e ▸ hb))⟩
theorem Rest.mono {X Y:List Nat} {w w':World} (h:Rest X w w') (hs:∀ x,x∈X→x∈Y):Rest Y w w':=⟨h.os,h.tape,h.output,h.size,fun k hk hn=>h.block k hk (fun e=>hn (hs k e))⟩
theorem Rest.below {X:List Nat} {B:Nat} {w w':World} (h:Rest X w w') (hX:∀ x,x∈X→B≤x) (hB:B≤w.heap.size):Below B w w':=⟨h.os,h.tape,h.output,h.size,fun k hk=>h.block k (Nat.lt_of_lt_of_le hk hB) (fun e=>Nat.lt_irrefl _ (Nat.lt_of_lt_of_le hk (hX k e)))⟩
theorem Rest.cell {X:List Nat} {w w':World} (h:Rest X w w') {c q:Nat} (hc:c<w.heap.size) (hn:c ∉ X):w'.cell? ⟨c,q,none⟩=w.cell? ⟨c,q,none⟩:=World.cell?_of_block (w:=w) (h.block c hc hn)
theorem Rest.frozen {X:List Nat} {w w':World} (h:Rest X w w') {c q:Nat} (hc:c<w.heap.size) (hn:c ∉ X):w'.frozen? ⟨c,q,none⟩=w.frozen? ⟨c,q,none⟩:=World.frozen?_of_block (w:=w) (h.block c hc hn)
theorem RW.rest {X:List Nat} {w w':World} {g o:Nat} {cs:List Value} (h:RW w g o cs) (hb:Rest X w w') (hn:g ∉ X):RW w' g o cs :=
 ⟨fun j v hv=>(hb.cell h.lt hn).trans (h.range j v hv),fun j hj=>by
   rw [hb.cell h.lt hn,hb.frozen h.lt hn];exact h.there j hj,Nat.lt_of_lt_of_le h.lt hb.size⟩
theorem RdC.rest {X:List Nat} {lo hi:Nat} {w w':World} {g L:Nat} {B:Nat→Nat} {r:Rd} (h:RdC lo hi w g L B r) (hb:Rest X w w') (hX:∀ x,x∈X→x<lo∨hi≤x):RdC lo hi w' g L B r:=by
 obtain ⟨v,rw_,hv,ha,hg,hh⟩:=h
 have hn:∀ b,lo≤b→b<hi→b ∉ X:=fun b h1 h2 e=>by have:=hX b e;omega
 exact ⟨v,rw_.rest hb (hn g hg.1 hg.2),hv.same (fun b o z h1 h2 hc=>(hb.cell (by omega) (hn b h1 h2)).trans hc),ha,hg,Nat.le_trans hh hb.size⟩
theorem RW.cell {w:World} {g o:Nat} {cs:List Value} (h:RW w g 0 cs) {v:Value} (hv:cs[o]? = some v):w.cell? ⟨g,o,none⟩=some v:=by
 have:=h.range o v hv;rwa [Nat.zero_add] at this
theorem RW.live {w:World} {g o:Nat} {cs:List Value} (h:RW w g 0 cs) (ho:o<cs.length):w.frozen? ⟨g,o,none⟩=false:=by
 have:=(h.there o ho).2;rwa [Nat.zero_add] at this
theorem RW.set1 {w:World} {g o:Nat} {cs:List Value} (h:RW w g 0 cs) (ho:o<cs.length) (v:Value):RW (w.setCell ⟨g,o,none⟩ v) g 0 (cs.set o v):=by
 have hc:w.cell? ⟨g,o,none⟩=some cs[o]:=h.cell (List.getElem?_eq_getElem ho)
 refine ⟨fun j u hu => ?_,fun j hj => ?_,by simpa using h.lt⟩
 · rw [Nat.zero_add]
   by_cases hj:j=o
   · subst hj
     rw [List.getElem?_set_self ho] at hu
     rw [←hu]
     exact World.cell?_setCell_same _ _ _ hc
   · rw [List.getElem?_set_ne (fun e=>hj e.symm)] at hu
     rw [World.cell?_setCell_other _ _ _ _ (fun e=>hj (by cases e;rfl))]
     exact h.cell hu
 · exact World.there_setCells h.there g o [v] j (by simpa using hj)
theorem Rest.setCell {X:List Nat} (w:World) {b p:Nat} (v:Value) (hb:b∈X):Rest X w (w.setCell ⟨b,p,none⟩ v):=Rest.of_out (Out.setCell (o:=p) (n:=1) w v (Nat.le_refl _) (Nat.lt_succ_self _)) hb
theorem own_rest {X:List Nat} {base:Nat} {w w':World} {e:TypeId} {size:Nat} {v:Value} {n:Nat} {xs:List Value} (h:w.ownsRow base e size v n xs) (hb:Rest X w w') (hX:∀ x,x∈X→x<base):w'.ownsRow base e size v n xs:=by
 obtain ⟨h1,h2⟩:=h
 refine ⟨h1,?_⟩
 rcases h2 with h2 | ⟨g,cap,cur,hv,hg,r⟩
 · exact .inl h2
 · refine .inr ⟨g,cap,cur,hv,hg,?_⟩
   have hl:=(World.ownsRow.lt (w:=w) (base:=base) (e:=e) (size:=size) (v:=v) (n:=n) (xs:=xs) ⟨h1,.inr ⟨g,cap,cur,hv,hg,r⟩⟩ g (by rw [hv];rfl)).2
   rw [hb.block g hl (fun e=>by have:=hX g e;omega)]
   exact r
end Go.Proofs.YtddkbmnkbfciaaaGreatDoor
namespace Go.Proofs.YtddkbmnkbfciaaaGreatDoor
open Go.RowKit
abbrev clo (i:Nat) (c:Array Value):Value := .func (.func i) #[] c
def VecF (base:Nat) (w:World) (F:Value) (p o:Nat) (least most:Int):Prop:=∃ q1 q2 q3,F = .agg #[clo 264 #[pA q1 0,pA q2 0,pA q3 0],clo 265 #[pA q1 0],clo 267 #[pA q1 0]]∧(base≤q1∧base≤q2∧base≤q3)∧RW w q1 0 [pA p o]∧RW w q2 0 [.int .i64 least]∧RW w q3 0 [.int .i64 most]
theorem fldI:(Tryz.prog.info? 243).map (·.size)=some 3:=by kernel_rfl
section
variable {ops:Array Oper} {rest:List Oper} {op:Oper} {a:Act} {w:World} {Q:Exit→Act→World→Prop}
theorem stF (x y:Operand) (ho:op.op = .store 243 x y) {g o:Nat} {X Y Z:Value} (hx:a.eval x = .pointer (some ⟨g,o,none⟩)) (hy:a.eval y = .agg #[X,Y,Z])
 (h1:[X,Y,Z].all (·.oneCell')=true) (ht:w.there g o 3) (h:wpList Tryz.prog ops Q rest (a.put op.dst undef) (w.setCells g o [X,Y,Z])) (hgd:op.guard=none):wpList Tryz.prog ops Q (op :: rest) a w :=
 wpList_store_mid hgd 243 x y ho g o #[X,Y,Z] hx hy ht fldI (by simpa using h1) h
theorem ldF (x:Operand) (ho:op.op = .load 243 x) {g o:Nat} {X Y Z:Value} (hx:a.eval x = .pointer (some ⟨g,o,none⟩)) (hc:w.rangeAt g o [X,Y,Z])
 (h:wpList Tryz.prog ops Q rest (a.put op.dst (.agg #[X,Y,Z])) w) (hgd:op.guard=none):wpList Tryz.prog ops Q (op :: rest) a w :=
 wpList_load_mid hgd 243 x ho g o hx [X,Y,Z] _ hc Tryz.underlying243 rfl fldI h
end
theorem resF {fn:Func} {p:Tmp} (h:fn.results=#[.cell p 243]) (tmps:Array Value) (w:World) (g o:Nat) (X Y Z:Value) (hp:tmps.getD p undef = .pointer (some ⟨g,o,none⟩)) (hc:w.rangeAt g o [X,Y,Z]):(results fn tmps).run Tryz.prog w = .ok (.agg #[X,Y,Z]) w :=
 results_cell_mid h tmps w g o [X,Y,Z] _ hp hc Tryz.underlying243 rfl fldI
theorem th3 {W:World} {a b c:Value} {t:TypeId} {g:Nat} (hg:g=W.heap.size:=by simp):(W.alloc (.cells #[a,b,c] t)).there g 0 3:=by
 subst hg;exact (RW.fresh W [a,b,c] t).there
theorem rg3 {W:World} {a b c:Value} {t:TypeId} {g:Nat} {X Y Z:Value} (hg:g=W.heap.size:=by simp):((W.alloc (.cells #[a,b,c] t)).setCells g 0 [X,Y,Z]).rangeAt g 0 [X,Y,Z] :=
 World.rangeAt_setCells_same _ _ _ _ (th3 hg)
theorem b3 {B:Nat} {W V:World} {a b c:Value} {t:TypeId} {g:Nat} {X Y Z:Value} (h:Below B V W) (hB:B≤W.heap.size) (hg:g=W.heap.size:=by simp):Below B V ((W.alloc (.cells #[a,b,c] t)).setCells g 0 [X,Y,Z]):=by
 subst hg;exact below_setCells hB _ _ _ (h.alloc hB _)
theorem bx (w:World) (v:Value) (t:TypeId):RW (w.alloc (.cells #[v] t)) w.heap.size 0 [v]∧Below w.heap.size w (w.alloc (.cells #[v] t))∧(w.alloc (.cells #[v] t)).heap.size=w.heap.size+1:=⟨RW.fresh w [v] t,(Below.refl _ _).alloc (Nat.le_refl _) _,by simp⟩
theorem bx3 (w:World) (a b c:Value) (r s t:TypeId) {W:World} (hW:W=((w.alloc (.cells #[a] r)).alloc (.cells #[b] s)).alloc (.cells #[c] t)):RW W w.heap.size 0 [a]∧RW W (w.heap.size+1) 0 [b]∧RW W (w.heap.size+1+1) 0 [c]∧Below w.heap.size w W∧W.heap.size=w.heap.size+1+1+1:=by
 obtain ⟨r1,b1,s1⟩:=bx w a r
 obtain ⟨r2,b2,s2⟩:=bx (w.alloc (.cells #[a] r)) b s
 obtain ⟨r3,b3,s3⟩:=bx ((w.alloc (.cells #[a] r)).alloc (.cells #[b] s)) c t
 rw [←hW] at r3 b3 s3
 have k1:=(r1.still b2).still b3
 have k2:=r2.still b3
 rw [s1] at k2
 rw [s2,s1] at r3 s3
 exact ⟨k1,k2,r3,below_next (below_next b1 b2) b3,s3⟩
set_option maxRecDepth 20000 in
theorem vec_any (p o:Nat) (least most:Int) (w:World):Calls Tryz.prog 242 #[pA p o,.int .i64 least,.int .i64 most] w fun e w'=>∃ F,e = .returned F∧VecF w.heap.size w' F p o least most∧Below w.heap.size w w':=by
 have hmf:∀ (fn:Fn) (first cap:Array Value) (w:World),(Instr.makeFunc fn first cap).run Tryz.prog w = .ok (.func fn first cap) w:=fun _ _ _ _=>rfl
 go_enter Tryz.func242,Tryz.ntmps242
 go_wp2_with (with_reducible (refine id (?_:wpList _ _ _ _ _ _));refine stF _ _ rfl rfl rfl rfl th3 ?_ rfl)
 refine bodyPost_ret (resF Tryz.results242 _ _ _ 0 _ _ _ rfl rg3) rfl ?_
 obtain ⟨W,hW⟩:∃ W,W=((w.alloc (.cells #[pA p o] 248)).alloc (.cells #[.int .i64 least] 3)).alloc (.cells #[.int .i64 most] 3):=⟨_,rfl⟩
 obtain ⟨k1,k2,k3,kb,ks⟩:=bx3 w _ _ _ _ _ _ hW
 rw [←hW]
 have bb:=b3 (t:=243) (a := .nilFunc) (b := .nilFunc) (c := .nilFunc) (X:=clo 264 #[pA w.heap.size 0,pA (w.heap.size+1) 0,pA (w.heap.size+1+1) 0]) (Y:=clo 265 #[pA w.heap.size 0]) (Z:=clo 267 #[pA w.heap.size 0]) (Below.refl W.heap.size W) (Nat.le_refl _) ks.symm
 exact ⟨_,rfl,⟨_,_,_,rfl,⟨by omega,by omega,by omega⟩,k1.still bb,k2.still bb,k3.still bb⟩,below_next kb bb⟩
end Go.Proofs.YtddkbmnkbfciaaaGreatDoor
namespace Go.Proofs.YtddkbmnkbfciaaaGreatDoor
open Go.RowKit
def NumF (base:Nat) (w:World) (F:Value) (p o:Nat) (size least most:Int):Prop:=∃ q1 q2 q3 q4,F = .agg #[clo 287 #[pA q1 0,pA q3 0,pA q4 0],clo 288 #[pA q1 0,pA q2 0],clo 289 #[pA q2 0,pA q1 0]]∧(base≤q1∧base≤q2∧base≤q3∧base≤q4)∧RW w q1 0 [pA p o]∧RW w q2 0 [.int .i64 size]∧RW w q3 0 [.int .i64 least]∧RW w q4 0 [.int .i64 most]
set_option maxRecDepth 20000 in
set_option maxHeartbeats 2000000 in
theorem num_any (p o:Nat) (size least most:Int) (w:World):Calls Tryz.prog 262 #[pA p o,.int .i64 size,.int .i64 least,.int .i64 most] w fun e w'=>∃ F,e = .returned F∧NumF w.heap.size w' F p o size least most∧Below w.heap.size w w':=by
 have hmf:∀ (fn:Fn) (first cap:Array Value) (w:World),(Instr.makeFunc fn first cap).run Tryz.prog w = .ok (.func fn first cap) w:=fun _ _ _ _=>rfl
 go_enter Tryz.func262,Tryz.ntmps262
 go_wp2_with (with_reducible (refine id (?_:wpList _ _ _ _ _ _));refine stF _ _ rfl rfl rfl rfl th3 ?_ rfl)
 refine bodyPost_ret (resF Tryz.results262 _ _ _ 0 _ _ _ rfl rg3) rfl ?_
 obtain ⟨V,hV⟩:∃ V,V=((w.alloc (.cells #[pA p o] 267)).alloc (.cells #[.int .i64 size] 3)).alloc (.cells #[.int .i64 least] 3):=⟨_,rfl⟩
 obtain ⟨k1,k2,k3,kb,ks⟩:=bx3 w _ _ _ _ _ _ hV
 rw [←hV]
 obtain ⟨k4,b4,s4⟩:=bx V (.int .i64 most) 3
 obtain ⟨W,hW⟩:∃ W,W=V.alloc (.cells #[.int .i64 most] 3):=⟨_,rfl⟩
 rw [←hW] at k4 b4 s4 ⊢
 rw [ks] at k4 s4
 have bb:=b3 (t:=243) (a := .nilFunc) (b := .nilFunc) (c := .nilFunc) (X:=clo 287 #[pA w.heap.size 0,pA (w.heap.size+1+1) 0,pA (w.heap.size+1+1+1) 0]) (Y:=clo 288 #[pA w.heap.size 0,pA (w.heap.size+1) 0]) (Z:=clo 289 #[pA (w.heap.size+1) 0,pA w.heap.size 0]) (Below.refl W.heap.size W) (Nat.le_refl _) s4.symm
 exact ⟨_,rfl,⟨_,_,_,_,rfl,⟨by omega,by omega,by omega,by omega⟩,(k1.still b4).still bb,(k2.still b4).still bb,(k3.still b4).still bb,k4.still bb⟩,below_next (below_next kb b4) bb⟩
def HonF (base:Nat) (w:World) (F:Value) (p o:Nat):Prop:=∃ q0 q1,F = .agg #[clo 268 #[pA q0 0],clo 265 #[pA q1 0],clo 267 #[pA q1 0]]∧(base≤q0∧base≤q1)∧RW w q0 0 [pA p o]∧RW w q1 0 [pA p o]
def LnF (base:Nat) (w:World) (F:Value) (p o:Nat):Prop:=∃ q,F = .agg #[clo 269 #[pA q 0],clo 271 #[pA q 0],clo 272 #[pA q 0]]∧base≤q∧RW w q 0 [pA p o]
set_option maxRecDepth 20000 in
set_option maxHeartbeats 2000000 in
theorem lnm_any (p o:Nat) (w:World):Calls Tryz.prog 244 #[pA p o] w fun e w'=>∃ F,e = .returned F∧LnF w.heap.size w' F p o∧Below w.heap.size w w':=by
 have hmf:∀ (fn:Fn) (first cap:Array Value) (w:World),(Instr.makeFunc fn first cap).run Tryz.prog w = .ok (.func fn first cap) w:=fun _ _ _ _=>rfl
 go_enter Tryz.func244,Tryz.ntmps244
 go_wp2_with (with_reducible (refine id (?_:wpList _ _ _ _ _ _));refine stF _ _ rfl rfl rfl rfl th3 ?_ rfl)
 refine bodyPost_ret (resF Tryz.results244 _ _ _ 0 _ _ _ rfl rg3) rfl ?_
 obtain ⟨k4,b4,s4⟩:=bx w (pA p o) 251
 obtain ⟨W,hW⟩:∃ W,W=w.alloc (.cells #[pA p o] 251):=⟨_,rfl⟩
 rw [←hW] at k4 b4 s4 ⊢
 have bb:=b3 (t:=243) (a := .nilFunc) (b := .nilFunc) (c := .nilFunc) (X:=clo 269 #[pA w.heap.size 0]) (Y:=clo 271 #[pA w.heap.size 0]) (Z:=clo 272 #[pA w.heap.size 0]) (Below.refl W.heap.size W) (Nat.le_refl _) s4.symm
 exact ⟨_,rfl,⟨_,rfl,by omega,k4.still bb⟩,below_next b4 bb⟩
set_option maxRecDepth 20000 in
set_option maxHeartbeats 2000000 in
theorem unw_any (i0 i1 i2:Nat) (c0 c1 c2:Array Value) (w:World):Calls Tryz.prog 291 #[.agg #[clo i0 c0,clo i1 c1,clo i2 c2]] w fun e w'=>e = .returned (.agg #[clo i0 c0,clo 300 #[],clo 301 #[]])∧Below w.heap.size w w':=by
 go_enter Tryz.func291,Tryz.ntmps291
 go_wp2_with (with_reducible (refine id (?_:wpList _ _ _ _ _ _));refine stF _ _ rfl rfl rfl rfl th3 ?_ rfl)
 refine bodyPost_ret (resF Tryz.results291 _ _ _ 0 _ _ _ rfl rg3) rfl ?_
 have bb:Below w.heap.size w (w.alloc (.cells #[clo i0 c0,clo i1 c1,clo i2 c2] 243)):=(Below.refl _ _).alloc (Nat.le_refl _) _
 exact ⟨rfl,b3 bb bb.size⟩
set_option maxRecDepth 20000 in
set_option maxHeartbeats 2000000 in
theorem hon_any (p o:Nat) (w:World):Calls Tryz.prog 243 #[pA p o] w fun e w'=>∃ F,e = .returned F∧HonF w.heap.size w' F p o∧Below w.heap.size w w':=by
 have hmf:∀ (fn:Fn) (first cap:Array Value) (w:World),(Instr.makeFunc fn first cap).run Tryz.prog w = .ok (.func fn first cap) w:=fun _ _ _ _=>rfl
 have cv:=vec_any p o 0 32
 go_enter Tryz.func243,Tryz.ntmps243
 obtain ⟨k1,b1,s1⟩:=bx w (pA p o) 248
 obtain ⟨V,hV⟩:∃ V,V=w.alloc (.cells #[pA p o] 248):=⟨_,rfl⟩
 have HV:=Hid.mk' hV
 rw [←hV] at k1 b1 s1
 go_upto_region 1 with (fail)
 rw [←HV.out,←s1]
 clear hV
 have b2:Below V.heap.size V (V.alloc (.cells #[.nilFunc,.nilFunc,.nilFunc] 243)):=(Below.refl _ _).alloc (Nat.le_refl _) _
 have k2:=RW.fresh V [.nilFunc,.nilFunc,.nilFunc] 243
 have k1':=k1.still b2
 generalize V.alloc (.cells #[.nilFunc,.nilFunc,.nilFunc] 243)=W at *
 have ck:=k1'.cell (o:=0) rfl
 have kk2:=Hid.mk' k2
 clear k2
 go_upto_region 2 with (first
  | (go_at_call 242;refine (cv _).mono ?_;clear cv;rintro e w1 ⟨F,rfl,⟨q1,q2,q3,rfl,hq,r1,r2,r3⟩,bw⟩;have kk3:=Hid.mk' (kk2.out.still bw);have kk4:=Hid.mk' (k1'.still bw))
  | (with_reducible (refine id (?_:wpList _ _ _ _ _ _));refine stF _ _ rfl rfl rfl rfl th3 ?_ rfl))
 have k5:=(RW.fresh w1 [.nilFunc,.nilFunc,.nilFunc] 243).stored [clo 264 #[pA q1 0,pA q2 0,pA q3 0],clo 265 #[pA q1 0],clo 267 #[pA q1 0]] rfl
 have b5:Below w1.heap.size w1 ((w1.alloc (.cells #[.nilFunc,.nilFunc,.nilFunc] 243)).setCells w1.heap.size 0 [clo 264 #[pA q1 0,pA q2 0,pA q3 0],clo 265 #[pA q1 0],clo 267 #[pA q1 0]]):=b3 (Below.refl _ _) (Nat.le_refl _) rfl
 obtain ⟨W2,hW2⟩:∃ W2,W2=(w1.alloc (.cells #[.nilFunc,.nilFunc,.nilFunc] 243)).setCells w1.heap.size 0 [clo 264 #[pA q1 0,pA q2 0,pA q3 0],clo 265 #[pA q1 0],clo 267 #[pA q1 0]]:=⟨_,rfl⟩
 rw [←hW2] at k5 b5
 dsimp only [Act.put]
 rw [show (w1.alloc (.cells [.nilFunc,.nilFunc,.nilFunc].toArray 243)).setCells w1.heap.size 0 [clo 264 #[pA q1 0,pA q2 0,pA q3 0],clo 265 #[pA q1 0],clo 267 #[pA q1 0]]=W2 from hW2.symm]
 clear hW2
 have c5:=k5.cell (o:=0) rfl
 have z5:=k5.live (o:=0) (by simp)
 have k6:=k5.set1 (o:=0) (by simp) (clo 268 #[pA w.heap.size 0])
 have b6:Below w1.heap.size w1 (W2.setCell ⟨w1.heap.size,0,none⟩ (clo 268 #[pA w.heap.size 0])):=b5.setCell (Nat.le_refl _) _
 go_upto_region 3 with (fail)
 rw [show Value.func (Fn.func 268) #[] #[.pointer (some ⟨w.heap.size,0,none⟩)]=clo 268 #[pA w.heap.size 0] from rfl]
 generalize W2.setCell ⟨w1.heap.size,0,none⟩ (clo 268 #[pA w.heap.size 0])=W3 at *
 have k7:=kk3.out.still b6
 have k8:=kk4.out.still b6
 have r1':=r1.still b6
 rw [s1] at k7
 go_wp2_with (first
  | (with_reducible (refine id (?_:wpList _ _ _ _ _ _));refine ldF _ rfl rfl k6.range ?_ rfl)
  | (with_reducible (refine id (?_:wpList _ _ _ _ _ _));refine stF _ _ rfl rfl rfl rfl k7.there ?_ rfl))
 refine bodyPost_ret (resF Tryz.results243 _ _ _ 0 _ _ _ rfl (World.rangeAt_setCells_same _ _ _ _ k7.there)) rfl ?_
 have hs:=bw.size
 have hs2:=kk2.out.lt
 refine ⟨_,rfl,⟨_,_,rfl,⟨Nat.le_refl _,by omega⟩,k8.far _ _ _ (.inl (by omega)),r1'.far _ _ _ (.inl (by omega))⟩,?_⟩
 exact below_setCells (by omega) _ _ _ (below_next (below_next (below_next b1 b2) bw) b6)
end Go.Proofs.YtddkbmnkbfciaaaGreatDoor
