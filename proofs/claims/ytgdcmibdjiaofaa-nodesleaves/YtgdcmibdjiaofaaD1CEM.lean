/- What the proof stands on: D1CE, N3A, ZD, N3R, N3B, N3C, N3H, D1RL, D1RM. -/
import Derived.Test.YtgdcmibdjiaofaaBaseM
import Derived.Test.YtgdcmibdjiaofaaD1RTM
import Derived.Laws.EntriesVeiled
import Derived.Recover
import Derived.WalkLawsBesides
namespace Go.Proofs.Ytgdcmibdjiaofaa
open Go.RowKit
def Parts (w:World) (gp cnt m:Nat) (t:Nat→Nat):Prop:=∃ (pvs:Nat→Value) (L:Nat→Nat),L 0=0∧L cnt=m∧∀ i,i<cnt→w.cell? ⟨gp,i,none⟩=some (pvs i)∧L i≤L (i+1)∧L (i+1)≤m∧BytesIn w (pvs i) (L (i+1) - L i) (fun j=>t (L i+j))
set_option maxRecDepth 20000 in
set_option maxHeartbeats 8000000 in
theorem concat_parts (gp cnt m:Nat) (t:Nat→Nat) (w:World) (hP:Parts w gp cnt m t) (hcnt:cnt≤1000) (hsum:m≤1000000) (h0:0<m) :
 Calls Try.prog 105 #[.slice (some ⟨gp,0,none⟩) cnt cnt] w fun e w'=>∃ s,e = .returned s∧Own w.heap.size w' s m t∧Below w.heap.size w w':=by
 obtain ⟨pvs,L,p0,p1,p2⟩:=hP
 have P2:=Hid.mk' p2
 clear p2
 have hg:=grow_any m h0 hsum w
 go_enter Try.func105,Try.ntmps105
 go_wp2
 go_loopw [3,11] (fun s i wr=>∃ q T:Nat,q≤cnt∧i = .int .i64 q∧Hid (T=L q)∧s = .int .i64 T∧w=wr) (fun _ i _=>cnt - (intOf i).toNat)
 case atStart=>exact ⟨0,0,Nat.zero_le _,rfl,Hid.mk' p0.symm,rfl,rfl⟩
 case round =>
  obtain ⟨q,T,hq,rfl,HT,rfl,rfl⟩:=hrel
  by_cases hlt:q<cnt
  · obtain ⟨c1,c2,c3,c4⟩:=P2.out q hlt
    obtain ⟨xp,cp,hpv,hxn,hncp,hsrc⟩:=c4.src
    obtain ⟨n,hn⟩:∃ n,n=L (q+1) - L q:=⟨_,rfl⟩
    have hTn:T+n=L (q+1):=by have:=HT.out;omega
    have hTm:T+n≤1000000:=by omega
    have r0:w.cell? ⟨gp,q,none⟩=some (.slice xp n cp):=by rw [c1,hpv,hn]
    have hqi:(0:Int)≤(q:Int)∧(q:Int)<cnt:=by omega
    have hd:decide ((q:Int)<(cnt:Int))=true:=decide_eq_true (by omega)
    have ew:IntKind.i64.wrap ((T:Int)+(n:Int))=(T:Int)+n:=by simp only [IntKind.wrap_i64];omega
    have en:¬((T:Int)+(n:Int)<0):=by omega
    have HN:Hid (T+n=L (q+1)):=hTn
    clear hn hTn c1 c2 c3 c4 hpv hsrc hg p0 p1
    go_wp2
    go_roundw
    case rel=>exact ⟨q+1,T+n,by omega,by go_num,Hid.mk' HN.out,by simp,by first | rfl | trivial⟩
    case measure=>simp [intOf];omega
  · have hqe:q=cnt:=by omega
    subst hqe
    have hTm:T=m:=by rw [HT.out,p1]
    subst hTm
    go_wp2_with (go_at_call 120;refine hg.mono ?_;clear hg;rintro e w1 ⟨g1,cap1,rfl,own1,hb1⟩)
    have hd0:decide ((q:Int)<(q:Int))=false:=decide_eq_false (by omega)
    try rw [hd0]
    clear hd0 hlt HT
    go_loopw [6,27] (fun ns i wr=>∃ r A:Nat,r≤q∧i = .int .i64 r∧Hid (A=L r)∧Own w.heap.size wr ns A t∧Below w.heap.size w wr) (fun _ i _=>q - (intOf i).toNat)
    case atStart=>exact ⟨0,0,Nat.zero_le _,rfl,Hid.mk' p0.symm,own1.congr (fun j hj=>absurd hj (Nat.not_lt_zero j)),hb1⟩
    case round =>
     clear own1 hb1
     obtain ⟨r,A,hr,rfl,HA,own,hbw⟩:=hrel
     by_cases hlt:r<q
     · obtain ⟨c1,c2,c3,c4⟩:=P2.out r hlt
       obtain ⟨xp,cp,hpv,hxn,hncp,hsrc⟩:=c4.src
       obtain ⟨n,hn⟩:∃ n,n=L (r+1) - L r:=⟨_,rfl⟩
       have hTn:A+n=L (r+1):=by have:=HA.out;omega
       have hTm:A+n≤1000000:=by omega
       have r0:wr.cell? ⟨gp,r,none⟩=some (.slice xp n cp):=by rw [hbw.cell (p:=⟨gp,r,none⟩) (block_lt_of_cell c1),c1,hpv,hn]
       have hcg:∀ z,z<A+n→cat A t (fun j=>t (L r+j)) z=t z:=fun z hz=>by
        have:=HA.out
        unfold cat
        by_cases e:z<A
        · rw [if_pos e]
        · rw [if_neg e]
          show t (L r+(z - A))=t z
          rw [show L r+(z - A)=z by omega]
       have src:=hsrc wr hbw
       rw [←hn] at src
       obtain ⟨Y,hY⟩:∃ Y:Nat→Nat,Y=fun j=>t (L r+j):=⟨_,rfl⟩
       rw [←hY] at src hcg
       have hqi:(0:Int)≤(r:Int)∧(r:Int)<q:=by omega
       have hd:decide ((r:Int)<(q:Int))=true:=decide_eq_true (by omega)
       have hsz:=hbw.size
       have HN:Hid (A+n=L (r+1)):=hTn
       clear hn hTn c1 c2 c3 c4 hpv hsrc p0 p1 hY
       go_wp2_with (at_builtin;refine wpList_append_bytes rfl (.tmp 31) (.tmp 32) rfl w.heap.size u6 A t rfl own xp n cp Y rfl src hxn (by omega) hsz ?_;intro v6 w6 own6 grow6;(have hb6:Below w.heap.size w w6:=Own.grown hbw grow6 own (Nat.le_refl _) hsz))
       go_roundw
       case rel=>exact ⟨r+1,A+n,by omega,by go_num,Hid.mk' HN.out,own6.congr hcg,hb6⟩
       case measure=>simp [intOf];omega
     · have hqe:r=q:=by omega
       subst hqe
       have hA:=HA.out
       rw [p1] at hA
       go_wp2
       go_ret
       exact ⟨_,rfl,by rw [←hA];exact own,hbw⟩
theorem BytesIn.cong {w:World} {v:Value} {n:Nat} {a b:Nat→Nat} (h:BytesIn w v n a) (e:∀ j,j<n→a j=b j):BytesIn w v n b:=by
 rcases h with h | ⟨bb,ob,cap,rfl,h1,h2,h3⟩
 · exact .inl h
 · exact .inr ⟨bb,ob,cap,rfl,h1,h2,fun j hj=>by rw [h3 j hj,e j hj]⟩
theorem parts_two (w:World) (v u:Value) (n m:Nat) (t s:Nat→Nat) (ty:TypeId) (h1:BytesIn w v n t) (h2:BytesIn w u m s):Parts (w.alloc (.cells #[v,u] ty)) w.heap.size 2 (n+m) (cat n t s):=by
 have b:=(Below.refl _ w).alloc (Nat.le_refl _) (.cells #[v,u] ty)
 refine ⟨fun i=>if i=0 then v else u,fun i=>if i=0 then 0 else if i=1 then n else n+m,rfl,rfl,fun i hi => ?_⟩
 rcases (show i=0∨i=1 by omega) with rfl | rfl
 · refine ⟨by simp,Nat.zero_le _,Nat.le_add_right _ _,?_⟩
   show BytesIn _ v (n - 0) (fun j=>cat n t s (0+j))
   rw [Nat.sub_zero]
   exact (h1.keep b).cong fun j hj=>by rw [Nat.zero_add,cat_left hj]
 · refine ⟨by simp,Nat.le_add_right _ _,Nat.le_refl _,?_⟩
   show BytesIn _ u (n+m - n) (fun j=>cat n t s (n+j))
   rw [Nat.add_sub_cancel_left]
   exact (h2.keep b).cong fun j hj=>by rw [cat_right]
set_option maxRecDepth 20000 in
set_option maxHeartbeats 4000000 in
theorem cVec11_good (v:Value) (n:Nat) (b:Nat→Nat) (hn:n≤65536) (w:World) (hv:BytesIn w v n b):Calls Try.prog 83 #[v] w fun e w'=>∃ s,e = .returned (.tuple #[s,.int .i64 0])∧Own w.heap.size w' s (vcL n) (vcB n b)∧Below w.heap.size w w':=by
 have HV:=Hid.mk' hv
 obtain ⟨x1,c1,rfl,-,-,-⟩:=hv.src
 clear hv
 have cl:=cLen11_good n (by omega) w
 have hs:=lnS_pos n
 obtain ⟨z,hz⟩:∃ z:Int,z=(n:Int):=⟨_,rfl⟩
 have t1:¬(65536:Int)<(n:Int):=by omega
 have hL:vcL n≤1000000:=by unfold vcL;omega
 have h0:0<vcL n:=by unfold vcL;omega
 clear hn hz hs
 go_enter Try.func83,Try.ntmps83
 go_wp2_with (first
  | (go_at_call 104;refine cl.mono ?_;clear cl;rintro e w1 ⟨h1,rfl,hh1,b1⟩;(obtain ⟨x2,c2,e2,-,-,-⟩:=hh1.src);subst e2;(have hP:=parts_two w1 _ _ _ _ _ _ 22 hh1 (HV.out.keep b1));(have cc:=concat_parts w1.heap.size 2 (vcL n) (vcB n b) _ hP (by decide) hL h0);clear hP)
  | (go_at_call 105;refine cc.mono ?_;clear cc;rintro e w2 ⟨s,rfl,own2,b2⟩))
 go_ret2
 have ba:=below_next b1 ((Below.refl w1.heap.size w1).alloc (Nat.le_refl _) (.cells #[.slice x2 (lnS n) c2,.slice x1 n c1] 22))
 exact ⟨s,rfl,World.ownsRow.mono own2 ba.size,below_next ba b2⟩
end Go.Proofs.Ytgdcmibdjiaofaa
namespace Go.Proofs.Ytgdcmibdjiaofaa
open Go.RowKit
def noB:ByteArray:={ data:=#[97,32,110,111,100,101,32,116,104,97,116,32,109,97,121,32,110,111,116,32,98,101] }
def noE:List PanicEntry:=[{ v := .iface 9 (.string noB),recovered:=false }]
theorem must_t (w:World):Calls Try.prog 65 #[.bool true] w fun e w'=>e = .returned (.tuple #[])∧w'=w:=by
 go_enter Try.func65,Try.ntmps65
 go_wp2
 go_end0
 exact ⟨rfl,rfl⟩
theorem must_f (w:World):Calls Try.prog 65 #[.bool false] w fun e w'=>e = .panicked noE∧w'=w:=by
 go_enter Try.func65,Try.ntmps65
 go_wp2
 exact ⟨rfl,rfl,rfl⟩
theorem sure_ok (v:Value) (w:World):Calls Try.prog 82 #[v,.int .i64 0] w fun e w'=>e = .returned v∧w'=w:=by
 have c:=must_t
 go_enter Try.func82,Try.ntmps82
 go_wp2_with (go_at_call 65;refine (c _).mono ?_;rintro e w1 ⟨rfl,hw⟩;obtain rfl:=hw.symm)
 go_ret
 exact ⟨rfl,rfl⟩
set_option maxRecDepth 20000 in
theorem vAl (q1 q2 q3 p o:Nat) (x:Option Addr) (n c:Nat) (least most:Int) (w:World) (h1:w.cell? ⟨q1,0,none⟩=some (pA p o)) (h2:w.cell? ⟨q2,0,none⟩=some (.int .i64 least)) (h3:w.cell? ⟨q3,0,none⟩=some (.int .i64 most)) (hp:w.cell? ⟨p,o,none⟩=some (.slice x n c)) :
 Calls Try.prog 80 #[pA q1 0,pA q2 0,pA q3 0] w fun e w'=>e = .returned (.bool (decide (least≤(n:Int)) && decide ((n:Int)≤most)))∧Below w.heap.size w w':=by
 by_cases hl:least≤(n:Int)
 · by_cases hm:(n:Int)≤most
   · go_enter Try.func80,Try.ntmps80
     go_wp2
     go_region
     go_wp2
     go_ret
     exact ⟨by simp [hl,hm],(Below.refl _ _).drew⟩
   · go_enter Try.func80,Try.ntmps80
     go_wp2
     go_region
     go_wp2
     go_ret
     exact ⟨by simp [hl],(Below.refl _ _).drew⟩
 · have hd:decide (least≤(n:Int))=false:=by simp [hl]
   go_enter Try.func80,Try.ntmps80
   go_wp2
   go_region
   go_wp2
   go_ret
   exact ⟨by rw [hd];rfl,(Below.refl _ _).drew⟩
theorem vPut (q1 p o:Nat) (v:Value) (n:Nat) (b:Nat→Nat) (hn:n≤65536) (w:World) (h1:w.cell? ⟨q1,0,none⟩=some (pA p o)) (hp:w.cell? ⟨p,o,none⟩=some v) (hv:BytesIn w v n b) :
 Calls Try.prog 81 #[pA q1 0] w fun e w'=>∃ s,e = .returned s∧Own w.heap.size w' s (vcL n) (vcB n b)∧Below w.heap.size w w':=by
 have c1:=cVec11_good v n b hn w hv
 have c2:=sure_ok
 go_enter Try.func81,Try.ntmps81
 go_wp2_with (first
  | (go_at_call 83;refine c1.mono ?_;clear c1;rintro e w1 ⟨s,rfl,o1,b1⟩)
  | (go_at_call 82;refine (c2 _ _).mono ?_;clear c2;rintro e w2 ⟨rfl,hw⟩;obtain rfl:=hw.symm))
 go_ret
 exact ⟨_,rfl,o1,b1⟩
theorem h32 (n:Nat):((n:Int) == 0 || (n:Int) == 32)=(decide (n=0) || decide (n=32)):=by
 rw [Bool.eq_iff_iff];simp only [Bool.or_eq_true,beq_iff_eq,decide_eq_true_eq];omega
set_option maxRecDepth 20000 in
theorem hAl (q1 p o:Nat) (x:Option Addr) (n c:Nat) (w:World) (h1:w.cell? ⟨q1,0,none⟩=some (pA p o)) (hp:w.cell? ⟨p,o,none⟩=some (.slice x n c)) :
 Calls Try.prog 98 #[pA q1 0] w fun e w'=>e = .returned (.bool (decide (n=0) || decide (n=32)))∧Below w.heap.size w w':=by
 by_cases h0:n=0
 · subst h0
   go_enter Try.func98,Try.ntmps98
   go_wp2
   go_ret
   exact ⟨by simp,Below.refl _ _⟩
 · have h2:¬(n:Int)=0:=by omega
   go_enter Try.func98,Try.ntmps98
   go_wp2
   go_ret
   exact ⟨by rw [h32];rfl,Below.refl _ _⟩
set_option maxRecDepth 20000 in
theorem nAl (q1 q2 q3 p o:Nat) (z:Int) (least most:Int) (w:World) (h1:w.cell? ⟨q1,0,none⟩=some (pA p o)) (h2:w.cell? ⟨q2,0,none⟩=some (.int .i64 least)) (h3:w.cell? ⟨q3,0,none⟩=some (.int .i64 most)) (hp:w.cell? ⟨p,o,none⟩=some (.int .i64 z)) :
 Calls Try.prog 86 #[pA q1 0,pA q2 0,pA q3 0] w fun e w'=>e = .returned (.bool (decide (least≤z) && decide (z≤most)))∧Below w.heap.size w w':=by
 by_cases hl:least≤z
 · by_cases hm:z≤most
   · go_enter Try.func86,Try.ntmps86
     go_wp2
     go_region
     go_wp2
     go_ret
     exact ⟨by simp [hl,hm],(Below.refl _ _).drew⟩
   · go_enter Try.func86,Try.ntmps86
     go_wp2
     go_region
     go_wp2
     go_ret
     exact ⟨by simp [hl],(Below.refl _ _).drew⟩
 · have hd:decide (least≤z)=false:=by simp [hl]
   go_enter Try.func86,Try.ntmps86
   go_wp2
   go_region
   go_wp2
   go_ret
   exact ⟨by rw [hd];rfl,(Below.refl _ _).drew⟩
set_option maxRecDepth 20000 in
theorem nPut (q1 q2 p o:Nat) (z s:Nat) (hs:szB s=true) (hz:z<mstN s) (w:World) (h1:w.cell? ⟨q1,0,none⟩=some (pA p o)) (h2:w.cell? ⟨q2,0,none⟩=some (.int .i64 (s:Int))) (hp:w.cell? ⟨p,o,none⟩=some (.int .i64 (z:Int))) (l1:q1<w.heap.size) (l2:q2<w.heap.size) (lp:p<w.heap.size) :
 Calls Try.prog 87 #[pA q1 0,pA q2 0] w fun e w'=>∃ u,e = .returned u∧BytesIn w' u s (beN z s)∧Below w.heap.size w w':=by
 have c1:=cNum11_good z s hs hz w.drew
 have c2:=sure_ok
 obtain ⟨a,ha⟩:∃ a:Int,a=(z:Int):=⟨_,rfl⟩
 obtain ⟨b,hb⟩:∃ b:Int,b=(s:Int):=⟨_,rfl⟩
 rw [←ha,←hb] at c1
 rw [←ha] at hp
 rw [←hb] at h2
 clear ha hb
 go_enter Try.func87,Try.ntmps87
 go_wp2
 refine wp_region_held_drew (S:=fun u=>Below w.drew.heap.size w.drew u) (by kernel_rfl) (Below.refl _ _) (fun hS => ?_)
 refine tc 0 hS (fun u hu=>(hu.cell (p:=⟨q1,0,none⟩) l1).trans h1) ?_
 (try simp only [pS])
 refine tg 1 hS ?_
 (try simp only [pS])
 refine tc 2 hS (fun u hu=>(hu.cell (p:=⟨p,o,none⟩) lp).trans hp) ?_
 (try simp only [pS])
 refine tc 3 hS (fun u hu=>(hu.cell (p:=⟨q2,0,none⟩) l2).trans h2) ?_
 (try simp only [pS])
 refine cn 4 c1 (fun e w' hr => ?_)
 obtain ⟨v,rfl,hv,b1⟩:=hr
 refine ⟨_,rfl,b1,?_⟩
 (try simp only [pS])
 have hS:=bR (w:=w')
 refine tg 5 hS ?_
 (try simp only [pS])
 refine tg 6 hS ?_
 (try simp only [pS])
 refine cn 7 (c2 v w') (fun e w2 hr => ?_)
 obtain ⟨rfl,rfl⟩:=hr
 refine ⟨_,rfl,hS,?_⟩
 (try simp only [pS])
 refine tg 8 hS ?_
 (try simp only [pS])
 refine wpAnyH_done (by kernel_rfl) ?_ _
 go_wp2
 go_ret
 exact ⟨_,rfl,hv,below_next (Below.refl _ _).drew b1⟩
theorem uPut (w:World):Calls Try.prog 91 #[] w fun e w'=>e = .returned (.slice none 0 0)∧w'=w:=by
 go_enter Try.func91,Try.ntmps91
 go_wp2
 go_ret
 exact ⟨rfl,rfl⟩
theorem uGet (v:Value) (w:World):Calls Try.prog 92 #[v] w fun e w'=>e = .returned (.tuple #[])∧w'=w:=by
 go_enter Try.func92,Try.ntmps92
 go_wp2
 go_end0
 exact ⟨rfl,rfl⟩
end Go.Proofs.Ytgdcmibdjiaofaa
namespace Go.Proofs.Ytgdcmibdjiaofaa
open Go.RowKit
section
variable {P:Program} {md:Region.Mode} {ops:Array Oper} {Q:Exit→Act→World→Prop} {S:World→Prop} {fuel:Nat} {listed:Array Bool} {a:Act} {w:World}
theorem aG {i:Nat} {rs:List Nat} (oi:Oper) (v:Nat→Value) (cs:List Value) (t:TypeId) (hk:∀ u,Below w.heap.size w u→S u) (h:∀ w1 g,w.heap.size≤g→Below w.heap.size w w1→RW w1 g 0 cs→wpAnyH P md ops Q S fuel (listed.setIfInBounds i true) (a.put oi.dst (v g)) w1) (hs:AllReadyH P md ops Q S fuel listed a w rs)
 (hrun:(execOp a.eval oi).run P w = .ok (.value (v w.heap.size)) (w.alloc (.cells cs.toArray t)):=by kernel_rfl) (hi:ops[i]? = some oi:=by rfl) (hw:Region.wanted oi (yielded ops a.tmps)=true:=by rfl):AllReadyH P md ops Q S fuel listed a w (i :: rs):=by
 have hb:Below w.heap.size w (w.alloc (.cells cs.toArray t)):=bR.alloc (Nat.le_refl _) _
 refine AllReadyH.cons hi (fun K hK => ?_) hs
 rw [if_pos hw]
 unfold Oper.wp
 rw [hrun,Oper.upon_value]
 exact hK.out _ _ (hk _ hb) (fun _=>h _ _ (Nat.le_refl _) hb (RW.fresh w cs t))
theorem aT {i:Nat} {rs:List Nat} (oi:Oper) (ty x y:Nat) {g off:Nat} {cs:List Value} (ds:List Value) (r:RW w g off cs) (hl:ds.length=cs.length) (hk:S (w.setCells g off ds)) (hin:(P.info? ty).map (·.size)=some ds.toArray.size) (h1:ds.toArray.all (·.oneCell')=true) (h:RW (w.setCells g off ds) g off ds→wpAnyH P md ops Q S fuel (listed.setIfInBounds i true) (a.put oi.dst undef) (w.setCells g off ds)) (hs:AllReadyH P md ops Q S fuel listed a w rs)
 (ho:oi.op = .store ty (.tmp x) (.tmp y):=by rfl) (hx:a.eval (.tmp x) = .pointer (some ⟨g,off,none⟩):=by rfl) (hy:a.eval (.tmp y) = .agg ds.toArray:=by rfl) (hi:ops[i]? = some oi:=by rfl) (hw:Region.wanted oi (yielded ops a.tmps)=true:=by rfl):AllReadyH P md ops Q S fuel listed a w (i :: rs):=by
 refine AllReadyH.cons hi (fun K hK => ?_) hs
 rw [if_pos hw]
 exact wp_store_mid ty _ _ ho g off ds.toArray hx hy (by rw [List.size_toArray,hl];exact r.there) hin h1 (hK.out _ _ hk (fun _=>h (r.stored ds hl)))
end
end Go.Proofs.Ytgdcmibdjiaofaa
namespace Go.Proofs.Ytgdcmibdjiaofaa
open Go.RowKit
structure Rest (X:List Nat) (w w':World):Prop where
 os:w'.os=w.os
 tape:w'.tape=w.tape
 output:w'.output=w.output
 size:w.heap.size≤w'.heap.size
 block:∀ k,k<w.heap.size→k ∉ X→w'.heap[k]? = w.heap[k]?
theorem Rest.refl (X:List Nat) (w:World):Rest X w w:=⟨rfl,rfl,rfl,Nat.le_refl _,fun _ _ _=>rfl⟩
theorem Rest.trans {X:List Nat} {u v w:World} (h:Rest X u v) (k:Rest X v w):Rest X u w :=
 ⟨k.os.trans h.os,k.tape.trans h.tape,k.output.trans h.output,Nat.le_trans h.size k.size,fun i hi hb=>(k.block i (Nat.lt_of_lt_of_le hi h.size) hb).trans (h.block i hi hb)⟩
theorem Rest.of_below {X:List Nat} {w w':World} (h:Below w.heap.size w w'):Rest X w w':=⟨h.os,h.tape,h.output,h.size,fun k hk _=>h.block k hk⟩
theorem Rest.of_out {X:List Nat} {b o n:Nat} {w w':World} (h:Out b o n w w') (hb:b∈X):Rest X w w':=⟨h.os,h.tape,h.output,h.size,fun k hk hn=>h.block k hk (fun e=>hn (e ▸ hb))⟩
theorem Rest.mono {X Y:List Nat} {w w':World} (h:Rest X w w') (hs:∀ x,x∈X→x∈Y):Rest Y w w':=⟨h.os,h.tape,h.output,h.size,fun k hk hn=>h.block k hk (fun e=>hn (hs k e))⟩
theorem Rest.below {X:List Nat} {B:Nat} {w w':World} (h:Rest X w w') (hX:∀ x,x∈X→B≤x) (hB:B≤w.heap.size):Below B w w':=⟨h.os,h.tape,h.output,h.size,fun k hk=>h.block k (Nat.lt_of_lt_of_le hk hB) (fun e=>Nat.lt_irrefl _ (Nat.lt_of_lt_of_le hk (hX k e)))⟩
theorem Rest.cell {X:List Nat} {w w':World} (h:Rest X w w') {c q:Nat} (hc:c<w.heap.size) (hn:c ∉ X):w'.cell? ⟨c,q,none⟩=w.cell? ⟨c,q,none⟩:=World.cell?_of_block (w:=w) (h.block c hc hn)
theorem Rest.frozen {X:List Nat} {w w':World} (h:Rest X w w') {c q:Nat} (hc:c<w.heap.size) (hn:c ∉ X):w'.frozen? ⟨c,q,none⟩=w.frozen? ⟨c,q,none⟩:=World.frozen?_of_block (w:=w) (h.block c hc hn)
theorem RW.rest {X:List Nat} {w w':World} {g o:Nat} {cs:List Value} (h:RW w g o cs) (hb:Rest X w w') (hn:g ∉ X):RW w' g o cs :=
 ⟨fun j v hv=>(hb.cell h.lt hn).trans (h.range j v hv),fun j hj=>by
   rw [hb.cell h.lt hn,hb.frozen h.lt hn];exact h.there j hj,Nat.lt_of_lt_of_le h.lt hb.size⟩
theorem RdC.rest {X:List Nat} {lo hi:Nat} {w w':World} {g L:Nat} {B:Nat→Nat} {r:Rd} (h:RdC lo hi w g L B r) (hb:Rest X w w') (hX:∀ x,x∈X→x<lo∨hi≤x):RdC lo hi w' g L B r:=by
 obtain ⟨v,rw_,hv,ha,hg,hh⟩:=h
 have hn:∀ b,lo≤b→b<hi→b ∉ X:=fun b h1 h2 e=>by have:=hX b e;omega
 exact ⟨v,rw_.rest hb (hn g hg.1 hg.2),hv.same (fun b o z h1 h2 hc=>(hb.cell (by omega) (hn b h1 h2)).trans hc),ha,hg,Nat.le_trans hh hb.size⟩
theorem RW.cell {w:World} {g o:Nat} {cs:List Value} (h:RW w g 0 cs) {v:Value} (hv:cs[o]? = some v):w.cell? ⟨g,o,none⟩=some v:=by
 have:=h.range o v hv;rwa [Nat.zero_add] at this
theorem RW.live {w:World} {g o:Nat} {cs:List Value} (h:RW w g 0 cs) (ho:o<cs.length):w.frozen? ⟨g,o,none⟩=false:=by
 have:=(h.there o ho).2;rwa [Nat.zero_add] at this
theorem RW.set1 {w:World} {g o:Nat} {cs:List Value} (h:RW w g 0 cs) (ho:o<cs.length) (v:Value):RW (w.setCell ⟨g,o,none⟩ v) g 0 (cs.set o v):=by
 have hc:w.cell? ⟨g,o,none⟩=some cs[o]:=h.cell (List.getElem?_eq_getElem ho)
 refine ⟨fun j u hu => ?_,fun j hj => ?_,by simpa using h.lt⟩
 · rw [Nat.zero_add]
   by_cases hj:j=o
   · subst hj
     rw [List.getElem?_set_self ho] at hu
     rw [←hu]
     exact World.cell?_setCell_same _ _ _ hc
   · rw [List.getElem?_set_ne (fun e=>hj e.symm)] at hu
     rw [World.cell?_setCell_other _ _ _ _ (fun e=>hj (by cases e;rfl))]
     exact h.cell hu
 · exact World.there_setCells h.there g o [v] j (by simpa using hj)
theorem Rest.setCell {X:List Nat} (w:World) {b p:Nat} (v:Value) (hb:b∈X):Rest X w (w.setCell ⟨b,p,none⟩ v):=Rest.of_out (Out.setCell (o:=p) (n:=1) w v (Nat.le_refl _) (Nat.lt_succ_self _)) hb
theorem own_rest {X:List Nat} {base:Nat} {w w':World} {e:TypeId} {size:Nat} {v:Value} {n:Nat} {xs:List Value} (h:w.ownsRow base e size v n xs) (hb:Rest X w w') (hX:∀ x,x∈X→x<base):w'.ownsRow base e size v n xs:=by
 obtain ⟨h1,h2⟩:=h
 refine ⟨h1,?_⟩
 rcases h2 with h2 | ⟨g,cap,cur,hv,hg,r⟩
 · exact .inl h2
 · refine .inr ⟨g,cap,cur,hv,hg,?_⟩
   have hl:=(World.ownsRow.lt (w:=w) (base:=base) (e:=e) (size:=size) (v:=v) (n:=n) (xs:=xs) ⟨h1,.inr ⟨g,cap,cur,hv,hg,r⟩⟩ g (by rw [hv];rfl)).2
   rw [hb.block g hl (fun e=>by have:=hX g e;omega)]
   exact r
section
variable {P:Program} {md:Region.Mode} {ops:Array Oper} {Q:Exit→Act→World→Prop} {S:World→Prop} {fuel:Nat} {listed:Array Bool} {a:Act} {w:World}
theorem clP (i:Nat) {oi:Oper} {f:FuncId} {args:Array Value} {R:Ending→World→Prop} (c:Calls P f args w R) (h:∀ e w',R e w'→(∃ r,e = .returned r∧S w'∧wpAnyH P md ops Q S fuel (listed.setIfInBounds i true) (a.put oi.dst r) w')∨∃ ch,e = .panicked ch∧Q (.panic ch) a w')
 (hi:ops.toList[i]? = some oi:=by rfl) (hr:Region.ready md ops listed=[i]:=by kernel_rfl) (hw:Region.wanted oi (yielded ops a.tmps)=true:=by rfl) (hrun:(execOp a.eval oi).run P w = .ok (.enter f args) w:=by kernel_rfl):wpAnyH P md ops Q S (fuel+1) listed a w:=by
 refine wpAnyH_ready hr (by simp) (AllReadyH.cons (at_list hi) (fun K hK => ?_) AllReadyH.nil)
 rw [if_pos hw]
 unfold Oper.wp
 rw [hrun,Oper.upon_enter]
 refine c.mono fun e w' hR => ?_
 rcases h e w' hR with ⟨r,rfl,hs,hk⟩ | ⟨ch,rfl,hq⟩
 · exact hK.out _ _ hs (fun _=>hk)
 · exact hq
end
end Go.Proofs.Ytgdcmibdjiaofaa
namespace Go.Proofs.Ytgdcmibdjiaofaa
open Go.RowKit
abbrev clo (i:Nat) (c:Array Value):Value := .func (.func i) #[] c
def VecF (base:Nat) (w:World) (F:Value) (p o:Nat) (least most:Int):Prop:=∃ q1 q2 q3,F = .agg #[clo 80 #[pA q1 0,pA q2 0,pA q3 0],clo 81 #[pA q1 0],clo 84 #[pA q1 0]]∧(base≤q1∧base≤q2∧base≤q3)∧RW w q1 0 [pA p o]∧RW w q2 0 [.int .i64 least]∧RW w q3 0 [.int .i64 most]
theorem fldI:(Try.prog.info? 102).map (·.size)=some 3:=by kernel_rfl
section
variable {ops:Array Oper} {rest:List Oper} {op:Oper} {a:Act} {w:World} {Q:Exit→Act→World→Prop}
theorem stF (x y:Operand) (ho:op.op = .store 102 x y) {g o:Nat} {X Y Z:Value} (hx:a.eval x = .pointer (some ⟨g,o,none⟩)) (hy:a.eval y = .agg #[X,Y,Z])
 (h1:[X,Y,Z].all (·.oneCell')=true) (ht:w.there g o 3) (h:wpList Try.prog ops Q rest (a.put op.dst undef) (w.setCells g o [X,Y,Z])) (hgd:op.guard=none):wpList Try.prog ops Q (op :: rest) a w :=
 wpList_store_mid hgd 102 x y ho g o #[X,Y,Z] hx hy ht fldI (by simpa using h1) h
theorem ldF (x:Operand) (ho:op.op = .load 102 x) {g o:Nat} {X Y Z:Value} (hx:a.eval x = .pointer (some ⟨g,o,none⟩)) (hc:w.rangeAt g o [X,Y,Z])
 (h:wpList Try.prog ops Q rest (a.put op.dst (.agg #[X,Y,Z])) w) (hgd:op.guard=none):wpList Try.prog ops Q (op :: rest) a w :=
 wpList_load_mid hgd 102 x ho g o hx [X,Y,Z] _ hc Try.underlying102 rfl fldI h
end
theorem resF {fn:Func} {p:Tmp} (h:fn.results=#[.cell p 102]) (tmps:Array Value) (w:World) (g o:Nat) (X Y Z:Value) (hp:tmps.getD p undef = .pointer (some ⟨g,o,none⟩)) (hc:w.rangeAt g o [X,Y,Z]):(results fn tmps).run Try.prog w = .ok (.agg #[X,Y,Z]) w :=
 results_cell_mid h tmps w g o [X,Y,Z] _ hp hc Try.underlying102 rfl fldI
theorem th3 {W:World} {a b c:Value} {t:TypeId} {g:Nat} (hg:g=W.heap.size:=by simp):(W.alloc (.cells #[a,b,c] t)).there g 0 3:=by
 subst hg;exact (RW.fresh W [a,b,c] t).there
theorem rg3 {W:World} {a b c:Value} {t:TypeId} {g:Nat} {X Y Z:Value} (hg:g=W.heap.size:=by simp):((W.alloc (.cells #[a,b,c] t)).setCells g 0 [X,Y,Z]).rangeAt g 0 [X,Y,Z] :=
 World.rangeAt_setCells_same _ _ _ _ (th3 hg)
theorem b3 {B:Nat} {W V:World} {a b c:Value} {t:TypeId} {g:Nat} {X Y Z:Value} (h:Below B V W) (hB:B≤W.heap.size) (hg:g=W.heap.size:=by simp):Below B V ((W.alloc (.cells #[a,b,c] t)).setCells g 0 [X,Y,Z]):=by
 subst hg;exact below_setCells hB _ _ _ (h.alloc hB _)
theorem bx (w:World) (v:Value) (t:TypeId):RW (w.alloc (.cells #[v] t)) w.heap.size 0 [v]∧Below w.heap.size w (w.alloc (.cells #[v] t))∧(w.alloc (.cells #[v] t)).heap.size=w.heap.size+1:=⟨RW.fresh w [v] t,(Below.refl _ _).alloc (Nat.le_refl _) _,by simp⟩
theorem bx3 (w:World) (a b c:Value) (r s t:TypeId) {W:World} (hW:W=((w.alloc (.cells #[a] r)).alloc (.cells #[b] s)).alloc (.cells #[c] t)):RW W w.heap.size 0 [a]∧RW W (w.heap.size+1) 0 [b]∧RW W (w.heap.size+1+1) 0 [c]∧Below w.heap.size w W∧W.heap.size=w.heap.size+1+1+1:=by
 obtain ⟨r1,b1,s1⟩:=bx w a r
 obtain ⟨r2,b2,s2⟩:=bx (w.alloc (.cells #[a] r)) b s
 obtain ⟨r3,b3,s3⟩:=bx ((w.alloc (.cells #[a] r)).alloc (.cells #[b] s)) c t
 rw [←hW] at r3 b3 s3
 have k1:=(r1.still b2).still b3
 have k2:=r2.still b3
 rw [s1] at k2
 rw [s2,s1] at r3 s3
 exact ⟨k1,k2,r3,below_next (below_next b1 b2) b3,s3⟩
set_option maxRecDepth 20000 in
theorem vec_any (p o:Nat) (least most:Int) (w:World):Calls Try.prog 57 #[pA p o,.int .i64 least,.int .i64 most] w fun e w'=>∃ F,e = .returned F∧VecF w.heap.size w' F p o least most∧Below w.heap.size w w':=by
 have hmf:∀ (fn:Fn) (first cap:Array Value) (w:World),(Instr.makeFunc fn first cap).run Try.prog w = .ok (.func fn first cap) w:=fun _ _ _ _=>rfl
 go_enter Try.func57,Try.ntmps57
 go_wp2_with (with_reducible (refine id (?_:wpList _ _ _ _ _ _));refine stF _ _ rfl rfl rfl rfl th3 ?_ rfl)
 refine bodyPost_ret (resF Try.results57 _ _ _ 0 _ _ _ rfl rg3) rfl ?_
 obtain ⟨W,hW⟩:∃ W,W=((w.alloc (.cells #[pA p o] 104)).alloc (.cells #[.int .i64 least] 3)).alloc (.cells #[.int .i64 most] 3):=⟨_,rfl⟩
 obtain ⟨k1,k2,k3,kb,ks⟩:=bx3 w _ _ _ _ _ _ hW
 rw [←hW]
 have bb:=b3 (t:=102) (a := .nilFunc) (b := .nilFunc) (c := .nilFunc) (X:=clo 80 #[pA w.heap.size 0,pA (w.heap.size+1) 0,pA (w.heap.size+1+1) 0]) (Y:=clo 81 #[pA w.heap.size 0]) (Z:=clo 84 #[pA w.heap.size 0]) (Below.refl W.heap.size W) (Nat.le_refl _) ks.symm
 exact ⟨_,rfl,⟨_,_,_,rfl,⟨by omega,by omega,by omega⟩,k1.still bb,k2.still bb,k3.still bb⟩,below_next kb bb⟩
end Go.Proofs.Ytgdcmibdjiaofaa
namespace Go.Proofs.Ytgdcmibdjiaofaa
open Go.RowKit
def NumF (base:Nat) (w:World) (F:Value) (p o:Nat) (size least most:Int):Prop:=∃ q1 q2 q3 q4,F = .agg #[clo 86 #[pA q1 0,pA q3 0,pA q4 0],clo 87 #[pA q1 0,pA q2 0],clo 89 #[pA q2 0,pA q1 0]]∧(base≤q1∧base≤q2∧base≤q3∧base≤q4)∧RW w q1 0 [pA p o]∧RW w q2 0 [.int .i64 size]∧RW w q3 0 [.int .i64 least]∧RW w q4 0 [.int .i64 most]
set_option maxRecDepth 20000 in
set_option maxHeartbeats 2000000 in
theorem num_any (p o:Nat) (size least most:Int) (w:World):Calls Try.prog 58 #[pA p o,.int .i64 size,.int .i64 least,.int .i64 most] w fun e w'=>∃ F,e = .returned F∧NumF w.heap.size w' F p o size least most∧Below w.heap.size w w':=by
 have hmf:∀ (fn:Fn) (first cap:Array Value) (w:World),(Instr.makeFunc fn first cap).run Try.prog w = .ok (.func fn first cap) w:=fun _ _ _ _=>rfl
 go_enter Try.func58,Try.ntmps58
 go_wp2_with (with_reducible (refine id (?_:wpList _ _ _ _ _ _));refine stF _ _ rfl rfl rfl rfl th3 ?_ rfl)
 refine bodyPost_ret (resF Try.results58 _ _ _ 0 _ _ _ rfl rg3) rfl ?_
 obtain ⟨V,hV⟩:∃ V,V=((w.alloc (.cells #[pA p o] 106)).alloc (.cells #[.int .i64 size] 3)).alloc (.cells #[.int .i64 least] 3):=⟨_,rfl⟩
 obtain ⟨k1,k2,k3,kb,ks⟩:=bx3 w _ _ _ _ _ _ hV
 rw [←hV]
 obtain ⟨k4,b4,s4⟩:=bx V (.int .i64 most) 3
 obtain ⟨W,hW⟩:∃ W,W=V.alloc (.cells #[.int .i64 most] 3):=⟨_,rfl⟩
 rw [←hW] at k4 b4 s4 ⊢
 rw [ks] at k4 s4
 have bb:=b3 (t:=102) (a := .nilFunc) (b := .nilFunc) (c := .nilFunc) (X:=clo 86 #[pA w.heap.size 0,pA (w.heap.size+1+1) 0,pA (w.heap.size+1+1+1) 0]) (Y:=clo 87 #[pA w.heap.size 0,pA (w.heap.size+1) 0]) (Z:=clo 89 #[pA (w.heap.size+1) 0,pA w.heap.size 0]) (Below.refl W.heap.size W) (Nat.le_refl _) s4.symm
 exact ⟨_,rfl,⟨_,_,_,_,rfl,⟨by omega,by omega,by omega,by omega⟩,(k1.still b4).still bb,(k2.still b4).still bb,(k3.still b4).still bb,k4.still bb⟩,below_next (below_next kb b4) bb⟩
def HonF (base:Nat) (w:World) (F:Value) (p o:Nat):Prop:=∃ q0 q1,F = .agg #[clo 98 #[pA q0 0],clo 81 #[pA q1 0],clo 84 #[pA q1 0]]∧(base≤q0∧base≤q1)∧RW w q0 0 [pA p o]∧RW w q1 0 [pA p o]
def LnF (base:Nat) (w:World) (F:Value) (p o:Nat):Prop:=∃ q,F = .agg #[clo 99 #[pA q 0],clo 101 #[pA q 0],clo 102 #[pA q 0]]∧base≤q∧RW w q 0 [pA p o]
set_option maxRecDepth 20000 in
set_option maxHeartbeats 2000000 in
theorem lnm_any (p o:Nat) (w:World):Calls Try.prog 72 #[pA p o] w fun e w'=>∃ F,e = .returned F∧LnF w.heap.size w' F p o∧Below w.heap.size w w':=by
 have hmf:∀ (fn:Fn) (first cap:Array Value) (w:World),(Instr.makeFunc fn first cap).run Try.prog w = .ok (.func fn first cap) w:=fun _ _ _ _=>rfl
 go_enter Try.func72,Try.ntmps72
 go_wp2_with (with_reducible (refine id (?_:wpList _ _ _ _ _ _));refine stF _ _ rfl rfl rfl rfl th3 ?_ rfl)
 refine bodyPost_ret (resF Try.results72 _ _ _ 0 _ _ _ rfl rg3) rfl ?_
 obtain ⟨k4,b4,s4⟩:=bx w (pA p o) 120
 obtain ⟨W,hW⟩:∃ W,W=w.alloc (.cells #[pA p o] 120):=⟨_,rfl⟩
 rw [←hW] at k4 b4 s4 ⊢
 have bb:=b3 (t:=102) (a := .nilFunc) (b := .nilFunc) (c := .nilFunc) (X:=clo 99 #[pA w.heap.size 0]) (Y:=clo 101 #[pA w.heap.size 0]) (Z:=clo 102 #[pA w.heap.size 0]) (Below.refl W.heap.size W) (Nat.le_refl _) s4.symm
 exact ⟨_,rfl,⟨_,rfl,by omega,k4.still bb⟩,below_next b4 bb⟩
set_option maxRecDepth 20000 in
set_option maxHeartbeats 2000000 in
theorem unw_any (i0 i1 i2:Nat) (c0 c1 c2:Array Value) (w:World):Calls Try.prog 59 #[.agg #[clo i0 c0,clo i1 c1,clo i2 c2]] w fun e w'=>e = .returned (.agg #[clo i0 c0,clo 91 #[],clo 92 #[]])∧Below w.heap.size w w':=by
 go_enter Try.func59,Try.ntmps59
 go_wp2_with (with_reducible (refine id (?_:wpList _ _ _ _ _ _));refine stF _ _ rfl rfl rfl rfl th3 ?_ rfl)
 refine bodyPost_ret (resF Try.results59 _ _ _ 0 _ _ _ rfl rg3) rfl ?_
 have bb:Below w.heap.size w (w.alloc (.cells #[clo i0 c0,clo i1 c1,clo i2 c2] 102)):=(Below.refl _ _).alloc (Nat.le_refl _) _
 exact ⟨rfl,b3 bb bb.size⟩
set_option maxRecDepth 20000 in
set_option maxHeartbeats 2000000 in
theorem hon_any (p o:Nat) (w:World):Calls Try.prog 71 #[pA p o] w fun e w'=>∃ F,e = .returned F∧HonF w.heap.size w' F p o∧Below w.heap.size w w':=by
 have hmf:∀ (fn:Fn) (first cap:Array Value) (w:World),(Instr.makeFunc fn first cap).run Try.prog w = .ok (.func fn first cap) w:=fun _ _ _ _=>rfl
 have cv:=vec_any p o 0 32
 go_enter Try.func71,Try.ntmps71
 obtain ⟨k1,b1,s1⟩:=bx w (pA p o) 104
 obtain ⟨V,hV⟩:∃ V,V=w.alloc (.cells #[pA p o] 104):=⟨_,rfl⟩
 have HV:=Hid.mk' hV
 rw [←hV] at k1 b1 s1
 go_upto_region 1 with (fail)
 rw [←HV.out,←s1]
 clear hV
 have b2:Below V.heap.size V (V.alloc (.cells #[.nilFunc,.nilFunc,.nilFunc] 102)):=(Below.refl _ _).alloc (Nat.le_refl _) _
 have k2:=RW.fresh V [.nilFunc,.nilFunc,.nilFunc] 102
 have k1':=k1.still b2
 generalize V.alloc (.cells #[.nilFunc,.nilFunc,.nilFunc] 102)=W at *
 have ck:=k1'.cell (o:=0) rfl
 have kk2:=Hid.mk' k2
 clear k2
 go_upto_region 2 with (first
  | (go_at_call 57;refine (cv _).mono ?_;clear cv;rintro e w1 ⟨F,rfl,⟨q1,q2,q3,rfl,hq,r1,r2,r3⟩,bw⟩;have kk3:=Hid.mk' (kk2.out.still bw);have kk4:=Hid.mk' (k1'.still bw))
  | (with_reducible (refine id (?_:wpList _ _ _ _ _ _));refine stF _ _ rfl rfl rfl rfl th3 ?_ rfl))
 have k5:=(RW.fresh w1 [.nilFunc,.nilFunc,.nilFunc] 102).stored [clo 80 #[pA q1 0,pA q2 0,pA q3 0],clo 81 #[pA q1 0],clo 84 #[pA q1 0]] rfl
 have b5:Below w1.heap.size w1 ((w1.alloc (.cells #[.nilFunc,.nilFunc,.nilFunc] 102)).setCells w1.heap.size 0 [clo 80 #[pA q1 0,pA q2 0,pA q3 0],clo 81 #[pA q1 0],clo 84 #[pA q1 0]]):=b3 (Below.refl _ _) (Nat.le_refl _) rfl
 obtain ⟨W2,hW2⟩:∃ W2,W2=(w1.alloc (.cells #[.nilFunc,.nilFunc,.nilFunc] 102)).setCells w1.heap.size 0 [clo 80 #[pA q1 0,pA q2 0,pA q3 0],clo 81 #[pA q1 0],clo 84 #[pA q1 0]]:=⟨_,rfl⟩
 rw [←hW2] at k5 b5
 dsimp only [Act.put]
 rw [show (w1.alloc (.cells [.nilFunc,.nilFunc,.nilFunc].toArray 102)).setCells w1.heap.size 0 [clo 80 #[pA q1 0,pA q2 0,pA q3 0],clo 81 #[pA q1 0],clo 84 #[pA q1 0]]=W2 from hW2.symm]
 clear hW2
 have c5:=k5.cell (o:=0) rfl
 have z5:=k5.live (o:=0) (by simp)
 have k6:=k5.set1 (o:=0) (by simp) (clo 98 #[pA w.heap.size 0])
 have b6:Below w1.heap.size w1 (W2.setCell ⟨w1.heap.size,0,none⟩ (clo 98 #[pA w.heap.size 0])):=b5.setCell (Nat.le_refl _) _
 go_upto_region 3 with (fail)
 rw [show Value.func (Fn.func 98) #[] #[.pointer (some ⟨w.heap.size,0,none⟩)]=clo 98 #[pA w.heap.size 0] from rfl]
 generalize W2.setCell ⟨w1.heap.size,0,none⟩ (clo 98 #[pA w.heap.size 0])=W3 at *
 have k7:=kk3.out.still b6
 have k8:=kk4.out.still b6
 have r1':=r1.still b6
 rw [s1] at k7
 go_wp2_with (first
  | (with_reducible (refine id (?_:wpList _ _ _ _ _ _));refine ldF _ rfl rfl k6.range ?_ rfl)
  | (with_reducible (refine id (?_:wpList _ _ _ _ _ _));refine stF _ _ rfl rfl rfl rfl k7.there ?_ rfl))
 refine bodyPost_ret (resF Try.results71 _ _ _ 0 _ _ _ rfl (World.rangeAt_setCells_same _ _ _ _ k7.there)) rfl ?_
 have hs:=bw.size
 have hs2:=kk2.out.lt
 refine ⟨_,rfl,⟨_,_,rfl,⟨Nat.le_refl _,by omega⟩,k8.far _ _ _ (.inl (by omega)),r1'.far _ _ _ (.inl (by omega))⟩,?_⟩
 exact below_setCells (by omega) _ _ _ (below_next (below_next (below_next b1 b2) bw) b6)
end Go.Proofs.Ytgdcmibdjiaofaa
namespace Go.Proofs.Ytgdcmibdjiaofaa
open Go.RowKit
theorem neC {w:World} {g h:Nat} {x y:Value} {xs ys:List Value} (r:RW w g 0 (x :: xs)) (s:RW w h 0 (y :: ys)) (hn:x≠y):g≠h:=fun e=>by
 subst e
 exact hn (Option.some.inj ((r.cell (o:=0) rfl).symm.trans (s.cell (o:=0) rfl)))
theorem all3 (i j k:Nat) (c d e:Array Value):(#[clo i c,clo j d,clo k e]:Array Value).all (·.oneCell')=true:=by simp [clo,Value.oneCell']
theorem rgS {w:World} {g o:Nat} {X Y Z:Value} (h:w.there g o 3):(w.setCells g o [X,Y,Z]).rangeAt g o [X,Y,Z]:=World.rangeAt_setCells_same _ _ _ _ h
def LhF (base:Nat) (w:World) (F:Value) (p o:Nat):Prop:=∃ q q0 q1 s1 s2 s3 g9 g10 k,F = .agg #[clo 115 #[pA k 0],clo 116 #[pA k 0],clo 117 #[pA k 0]]∧(base≤q∧base≤q0∧base≤q1∧base≤s1∧base≤s2∧base≤s3∧base≤g9∧base≤g10∧base≤k) ∧
 RW w q 0 [pA p o]∧RW w q0 0 [pA p (o+4)]∧RW w q1 0 [pA p (o+4)]∧RW w s1 0 [pA p (o+4)]∧RW w s2 0 [.int .i64 0]∧RW w s3 0 [.int .i64 0] ∧
 RW w g9 0 [clo 98 #[pA q0 0],clo 81 #[pA q1 0],clo 84 #[pA q1 0]] ∧
 RW w g10 0 [clo 80 #[pA s1 0,pA s2 0,pA s3 0],clo 91 #[],clo 92 #[]]∧RW w k 0 [clo 114 #[pA q 0,pA g9 0,pA g10 0]]
set_option maxRecDepth 20000 in
set_option maxHeartbeats 4000000 in
theorem lh_any (p o:Nat) (w:World):Calls Try.prog 94 #[pA p o] w fun e w'=>∃ F,e = .returned F∧LhF w.heap.size w' F p o∧Below w.heap.size w w':=by
 have hmf:∀ (fn:Fn) (first cap:Array Value) (w:World),(Instr.makeFunc fn first cap).run Try.prog w = .ok (.func fn first cap) w:=fun _ _ _ _=>rfl
 obtain ⟨k1,b1,s1'⟩:=bx w (pA p o) 76
 obtain ⟨U,hU⟩:∃ U,U=w.alloc (.cells #[pA p o] 76):=⟨_,rfl⟩
 have HU:=Hid.mk' hU
 rw [←hU] at k1 b1 s1'
 go_enter Try.func94,Try.ntmps94
 go_upto_region 1 with (fail)
 rw [←HU.out,←s1']
 have s1h:=Hid.mk' s1'
 clear hU HU s1'
 have b2:Below U.heap.size U (U.alloc (.cells #[.nilFunc,.nilFunc,.nilFunc] 102)):=(Below.refl _ _).alloc (Nat.le_refl _) _
 have k2:=RW.fresh U [.nilFunc,.nilFunc,.nilFunc] 102
 have k1':=k1.still b2
 generalize U.alloc (.cells #[.nilFunc,.nilFunc,.nilFunc] 102)=W at *
 have k0:=k1'.drew
 have k2d:=k2.drew
 have bd:Below w.heap.size w W.drew:=(below_next b1 b2).drew
 have l0:=k0.lt
 have ck:=k0.cell (o:=0) rfl
 refine wp_region_held_drew (S:=fun u=>Below W.drew.heap.size W.drew u) (by kernel_rfl) (Below.refl _ _) (fun hS => ?_)
 generalize W.drew=V at *
 obtain ⟨oh,hoh⟩:∃ oh,oh=o+4:=⟨_,rfl⟩
 have Hoh:=Hid.mk' hoh
 refine tc 0 hS (fun u hu=>(hu.cell (p:=⟨w.heap.size,0,none⟩) l0).trans ck) ?_
 (try simp only [pS])
 refine tg 1 hS ?_
 (try simp only [pS])
 refine tg 2 hS (v:=pA p oh) ?_ (hy:=by intro u _;rw [Hoh.out];kernel_rfl)
 (try simp only [pS])
 refine tc 4 hS (fun u hu=>(hu.cell (p:=⟨w.heap.size,0,none⟩) l0).trans ck) ?_
 (try simp only [pS])
 refine tg 5 hS ?_
 (try simp only [pS])
 refine tg 6 hS (v:=pA p oh) ?_ (hy:=by intro u _;rw [Hoh.out];kernel_rfl)
 (try simp only [pS])
 refine dag_root (fun G hG0 => ?_)
 have hG:=Hid.mk' hG0
 clear hG0
 obtain ⟨F,hF0⟩:∃ F:Value→Value→Value→Value→Value→Act,∀ v3 v4 v9 v13 v14,F v3 v4 v9 v13 v14={ tmps:=#[pA p o,pA w.heap.size 0,pA U.heap.size 0,v3,v4,undef,pA p o,pA p o,pA p oh,v9,pA p o,pA p o,pA p oh,v13,v14,undef,undef,undef,undef,undef],defers:=[] }:=⟨_,fun _ _ _ _ _=>rfl⟩
 have hF:=Hid.mk' hF0
 clear hF0
 have st0:Hid (∀ (cur:World) (q0 q1 s1 s2 s3 g9 g10:Nat),Below V.heap.size V cur→RW cur q0 0 [pA p oh]→RW cur q1 0 [pA p oh]→V.heap.size≤q0→V.heap.size≤q1→RW cur s1 0 [pA p oh]→RW cur s2 0 [.int .i64 0]→RW cur s3 0 [.int .i64 0]→V.heap.size≤s1→V.heap.size≤s2→V.heap.size≤s3→RW cur g9 0 [clo 98 #[pA q0 0],clo 81 #[pA q1 0],clo 84 #[pA q1 0]]→V.heap.size≤g9→RW cur g10 0 [clo 80 #[pA s1 0,pA s2 0,pA s3 0],clo 91 #[],clo 92 #[]]→V.heap.size≤g10→g9≠g10→G 0 #[true,true,true,true,true,true,true,true,true,true,true,true,true] (F (pA g9 0) (pA g10 0) (.agg #[clo 98 #[pA q0 0],clo 81 #[pA q1 0],clo 84 #[pA q1 0]]) (.agg #[clo 80 #[pA s1 0,pA s2 0,pA s3 0],clo 81 #[pA s1 0],clo 84 #[pA s1 0]]) (.agg #[clo 80 #[pA s1 0,pA s2 0,pA s3 0],clo 91 #[],clo 92 #[]])) cur):=Hid.mk' (by
  intro cur q0 q1 s1 s2 s3 g9 g10 hS rq0 rq1 nq0 nq1 rs1 rs2 rs3 ns1 ns2 ns3 r9 n9 r10 n10 d
  rw [hF.out,hG.out]
  refine wpAnyH_done (by kernel_rfl) ?_ _
  have k2c:=k2d.still hS
  have k0c:=k0.still hS
  (try simp only [pS])
  clear hmf
  have hmf:∀ (fn:Fn) (first cap:Array Value) (w:World),(Instr.makeFunc fn first cap).run Try.prog w = .ok (.func fn first cap) w:=fun _ _ _ _=>rfl
  obtain ⟨x2,y2,z1⟩:=bx cur (clo 114 #[pA w.heap.size 0,pA g9 0,pA g10 0]) 140
  go_upto_region 3 with (fail)
  rw [show Value.func (Fn.func 114) #[] #[pA w.heap.size 0,pA g9 0,pA g10 0]=clo 114 #[pA w.heap.size 0,pA g9 0,pA g10 0] from rfl]
  have k2e:=k2c.still y2
  have k0e:=k0c.still y2
  have rq0:=rq0.still y2
  have rq1:=rq1.still y2
  have rs1:=rs1.still y2
  have rs2:=rs2.still y2
  have rs3:=rs3.still y2
  have r9:=r9.still y2
  have r10:=r10.still y2
  generalize cur.alloc (.cells #[clo 114 #[pA w.heap.size 0,pA g9 0,pA g10 0]] 140)=W5 at *
  clear hmf
  have hmf:∀ (fn:Fn) (first cap:Array Value) (w:World),(Instr.makeFunc fn first cap).run Try.prog w = .ok (.func fn first cap) w:=fun _ _ _ _=>rfl
  go_wp2_with (with_reducible (refine id (?_:wpList _ _ _ _ _ _));refine stF _ _ rfl rfl rfl rfl k2e.there ?_ rfl)
  refine bodyPost_ret (resF Try.results94 _ _ _ 0 _ _ _ rfl (rgS k2e.there)) rfl ?_
  have hs:=hS.size
  have hl:=k2d.lt
  have hu:=b1.size
  have hU2:U.heap.size=w.heap.size+1:=s1h.out
  have f:∀ {g:Nat} {cs:List Value},RW W5 g 0 cs→g≠U.heap.size→RW (W5.setCells U.heap.size 0 [clo 115 #[pA cur.heap.size 0],clo 116 #[pA cur.heap.size 0],clo 117 #[pA cur.heap.size 0]]) g 0 cs:=fun h hn=>h.far _ _ _ (.inl hn)
  rw [Hoh.out] at rq0 rq1 rs1
  refine ⟨_,rfl,⟨w.heap.size,q0,q1,s1,s2,s3,g9,g10,cur.heap.size,rfl,⟨Nat.le_refl _,by omega,by omega,by omega,by omega,by omega,by omega,by omega,by omega⟩,f k0e (by omega),f rq0 (by omega),f rq1 (by omega),f rs1 (by omega),f rs2 (by omega),f rs3 (by omega),f r9 (by omega),f r10 (by omega),f x2 (by omega)⟩,?_⟩
  exact below_setCells (by omega) _ _ _ (below_next (below_next bd hS) y2))
 have st1:Hid (∀ (cur:World) (q0 q1 s1 s2 s3 g9 g10:Nat),Below V.heap.size V cur→RW cur q0 0 [pA p oh]→RW cur q1 0 [pA p oh]→V.heap.size≤q0→V.heap.size≤q1→RW cur s1 0 [pA p oh]→RW cur s2 0 [.int .i64 0]→RW cur s3 0 [.int .i64 0]→V.heap.size≤s1→V.heap.size≤s2→V.heap.size≤s3→RW cur g9 0 [clo 98 #[pA q0 0],clo 81 #[pA q1 0],clo 84 #[pA q1 0]]→V.heap.size≤g9→RW cur g10 0 [.nilFunc,.nilFunc,.nilFunc]→V.heap.size≤g10→g9≠g10→G 1 #[true,true,true,true,true,true,true,true,true,true,true,true,false] (F (pA g9 0) (pA g10 0) (.agg #[clo 98 #[pA q0 0],clo 81 #[pA q1 0],clo 84 #[pA q1 0]]) (.agg #[clo 80 #[pA s1 0,pA s2 0,pA s3 0],clo 81 #[pA s1 0],clo 84 #[pA s1 0]]) (.agg #[clo 80 #[pA s1 0,pA s2 0,pA s3 0],clo 91 #[],clo 92 #[]])) cur):=Hid.mk' (by
  intro cur q0 q1 s1 s2 s3 g9 g10 hS rq0 rq1 nq0 nq1 rs1 rs2 rs3 ns1 ns2 ns3 r9 n9 r10 n10 d
  rw [hF.out,hG.out]
  refine wpAnyH_ready (rs:=[12]) (by kernel_rfl) (by simp) ?_
  refine aT _ 102 4 14 [clo 80 #[pA s1 0,pA s2 0,pA s3 0],clo 91 #[],clo 92 #[]] r10 rfl (below_setCells n10 _ _ _ hS) fldI (all3 _ _ _ _ _ _) (fun rr=>dagW hG (st0.out _ q0 q1 s1 s2 s3 g9 g10 (below_setCells n10 _ _ _ hS) (rq0.far _ _ _ (.inl (neC rq0 r10 (fun h=>by cases h)))) (rq1.far _ _ _ (.inl (neC rq1 r10 (fun h=>by cases h)))) nq0 nq1 (rs1.far _ _ _ (.inl (neC rs1 r10 (fun h=>by cases h)))) (rs2.far _ _ _ (.inl (neC rs2 r10 (fun h=>by cases h)))) (rs3.far _ _ _ (.inl (neC rs3 r10 (fun h=>by cases h)))) ns1 ns2 ns3 (r9.far _ _ _ (.inl d)) n9 rr n10 d) (hF.out _ _ _ _ _)) ?_ rfl rfl rfl (at_list rfl)
  exact AllReadyH.nil)
 have st2:Hid (∀ (cur:World) (q0 q1 s1 s2 s3 g9 g10:Nat),Below V.heap.size V cur→RW cur q0 0 [pA p oh]→RW cur q1 0 [pA p oh]→V.heap.size≤q0→V.heap.size≤q1→RW cur s1 0 [pA p oh]→RW cur s2 0 [.int .i64 0]→RW cur s3 0 [.int .i64 0]→V.heap.size≤s1→V.heap.size≤s2→V.heap.size≤s3→RW cur g9 0 [.nilFunc,.nilFunc,.nilFunc]→V.heap.size≤g9→RW cur g10 0 [.nilFunc,.nilFunc,.nilFunc]→V.heap.size≤g10→g9≠g10→G 2 #[true,true,true,true,true,true,true,true,true,true,true,false,false] (F (pA g9 0) (pA g10 0) (.agg #[clo 98 #[pA q0 0],clo 81 #[pA q1 0],clo 84 #[pA q1 0]]) (.agg #[clo 80 #[pA s1 0,pA s2 0,pA s3 0],clo 81 #[pA s1 0],clo 84 #[pA s1 0]]) (.agg #[clo 80 #[pA s1 0,pA s2 0,pA s3 0],clo 91 #[],clo 92 #[]])) cur):=Hid.mk' (by
  intro cur q0 q1 s1 s2 s3 g9 g10 hS rq0 rq1 nq0 nq1 rs1 rs2 rs3 ns1 ns2 ns3 r9 n9 r10 n10 d
  rw [hF.out,hG.out]
  clear st0
  refine wpAnyH_ready (rs:=[11]) (by kernel_rfl) (by simp) ?_
  refine aT _ 102 3 9 [clo 98 #[pA q0 0],clo 81 #[pA q1 0],clo 84 #[pA q1 0]] r9 rfl (below_setCells n9 _ _ _ hS) fldI (all3 _ _ _ _ _ _) (fun rr=>dagW hG (st1.out _ q0 q1 s1 s2 s3 g9 g10 (below_setCells n9 _ _ _ hS) (rq0.far _ _ _ (.inl (neC rq0 r9 (fun h=>by cases h)))) (rq1.far _ _ _ (.inl (neC rq1 r9 (fun h=>by cases h)))) nq0 nq1 (rs1.far _ _ _ (.inl (neC rs1 r9 (fun h=>by cases h)))) (rs2.far _ _ _ (.inl (neC rs2 r9 (fun h=>by cases h)))) (rs3.far _ _ _ (.inl (neC rs3 r9 (fun h=>by cases h)))) ns1 ns2 ns3 rr n9 (r10.far _ _ _ (.inl d.symm)) n10 d) (hF.out _ _ _ _ _)) ?_ rfl rfl rfl (at_list rfl)
  exact AllReadyH.nil)
 have st3:Hid (∀ (cur:World) (q0 q1 s1 s2 s3 g9:Nat),Below V.heap.size V cur→RW cur q0 0 [pA p oh]→RW cur q1 0 [pA p oh]→V.heap.size≤q0→V.heap.size≤q1→RW cur s1 0 [pA p oh]→RW cur s2 0 [.int .i64 0]→RW cur s3 0 [.int .i64 0]→V.heap.size≤s1→V.heap.size≤s2→V.heap.size≤s3→RW cur g9 0 [.nilFunc,.nilFunc,.nilFunc]→V.heap.size≤g9→G 3 #[true,true,true,true,true,true,true,true,true,true,false,false,false] (F (pA g9 0) (undef) (.agg #[clo 98 #[pA q0 0],clo 81 #[pA q1 0],clo 84 #[pA q1 0]]) (.agg #[clo 80 #[pA s1 0,pA s2 0,pA s3 0],clo 81 #[pA s1 0],clo 84 #[pA s1 0]]) (.agg #[clo 80 #[pA s1 0,pA s2 0,pA s3 0],clo 91 #[],clo 92 #[]])) cur):=Hid.mk' (by
  intro cur q0 q1 s1 s2 s3 g9 hS rq0 rq1 nq0 nq1 rs1 rs2 rs3 ns1 ns2 ns3 r9 n9
  rw [hF.out,hG.out]
  clear st0 st1
  refine wpAnyH_ready (rs:=[10]) (by kernel_rfl) (by simp) ?_
  refine aG _ (fun g=>pA g 0) [.nilFunc,.nilFunc,.nilFunc] 102 (fun u hb=>below_next hS hb) (fun w1 g10 lg hb rr=>dagW hG (st2.out w1 q0 q1 s1 s2 s3 g9 g10 (below_next hS hb) (rq0.still hb) (rq1.still hb) nq0 nq1 (rs1.still hb) (rs2.still hb) (rs3.still hb) ns1 ns2 ns3 (r9.still hb) n9 rr (Nat.le_trans hS.size lg) (fun e=>by have:=r9.lt;omega)) (hF.out _ _ _ _ _)) ?_ (by kernel_rfl) (at_list rfl)
  exact AllReadyH.nil)
 have st4:Hid (∀ (cur:World) (q0 q1 s1 s2 s3 g10:Nat),Below V.heap.size V cur→RW cur q0 0 [pA p oh]→RW cur q1 0 [pA p oh]→V.heap.size≤q0→V.heap.size≤q1→RW cur s1 0 [pA p oh]→RW cur s2 0 [.int .i64 0]→RW cur s3 0 [.int .i64 0]→V.heap.size≤s1→V.heap.size≤s2→V.heap.size≤s3→RW cur g10 0 [.nilFunc,.nilFunc,.nilFunc]→V.heap.size≤g10→G 3 #[true,true,true,true,true,true,true,true,true,false,true,false,false] (F (undef) (pA g10 0) (.agg #[clo 98 #[pA q0 0],clo 81 #[pA q1 0],clo 84 #[pA q1 0]]) (.agg #[clo 80 #[pA s1 0,pA s2 0,pA s3 0],clo 81 #[pA s1 0],clo 84 #[pA s1 0]]) (.agg #[clo 80 #[pA s1 0,pA s2 0,pA s3 0],clo 91 #[],clo 92 #[]])) cur):=Hid.mk' (by
  intro cur q0 q1 s1 s2 s3 g10 hS rq0 rq1 nq0 nq1 rs1 rs2 rs3 ns1 ns2 ns3 r10 n10
  rw [hF.out,hG.out]
  clear st0 st1 st3
  refine wpAnyH_ready (rs:=[9]) (by kernel_rfl) (by simp) ?_
  refine aG _ (fun g=>pA g 0) [.nilFunc,.nilFunc,.nilFunc] 102 (fun u hb=>below_next hS hb) (fun w1 g9 lg hb rr=>dagW hG (st2.out w1 q0 q1 s1 s2 s3 g9 g10 (below_next hS hb) (rq0.still hb) (rq1.still hb) nq0 nq1 (rs1.still hb) (rs2.still hb) (rs3.still hb) ns1 ns2 ns3 rr (Nat.le_trans hS.size lg) (r10.still hb) n10 (fun e=>by have:=r10.lt;omega)) (hF.out _ _ _ _ _)) ?_ (by kernel_rfl) (at_list rfl)
  exact AllReadyH.nil)
 have st5:Hid (∀ (cur:World) (q0 q1 s1 s2 s3:Nat),Below V.heap.size V cur→RW cur q0 0 [pA p oh]→RW cur q1 0 [pA p oh]→V.heap.size≤q0→V.heap.size≤q1→RW cur s1 0 [pA p oh]→RW cur s2 0 [.int .i64 0]→RW cur s3 0 [.int .i64 0]→V.heap.size≤s1→V.heap.size≤s2→V.heap.size≤s3→G 4 #[true,true,true,true,true,true,true,true,true,false,false,false,false] (F (undef) (undef) (.agg #[clo 98 #[pA q0 0],clo 81 #[pA q1 0],clo 84 #[pA q1 0]]) (.agg #[clo 80 #[pA s1 0,pA s2 0,pA s3 0],clo 81 #[pA s1 0],clo 84 #[pA s1 0]]) (.agg #[clo 80 #[pA s1 0,pA s2 0,pA s3 0],clo 91 #[],clo 92 #[]])) cur):=Hid.mk' (by
  intro cur q0 q1 s1 s2 s3 hS rq0 rq1 nq0 nq1 rs1 rs2 rs3 ns1 ns2 ns3
  rw [hF.out,hG.out]
  clear st0 st1 st2
  refine wpAnyH_ready (rs:=[9,10]) (by kernel_rfl) (by simp) ?_
  refine aG _ (fun g=>pA g 0) [.nilFunc,.nilFunc,.nilFunc] 102 (fun u hb=>below_next hS hb) (fun w1 g9 lg hb rr=>dagW hG (st3.out w1 q0 q1 s1 s2 s3 g9 (below_next hS hb) (rq0.still hb) (rq1.still hb) nq0 nq1 (rs1.still hb) (rs2.still hb) (rs3.still hb) ns1 ns2 ns3 rr (Nat.le_trans hS.size lg)) (hF.out _ _ _ _ _)) ?_ (by kernel_rfl) (at_list rfl)
  refine aG _ (fun g=>pA g 0) [.nilFunc,.nilFunc,.nilFunc] 102 (fun u hb=>below_next hS hb) (fun w1 g10 lg hb rr=>dagW hG (st4.out w1 q0 q1 s1 s2 s3 g10 (below_next hS hb) (rq0.still hb) (rq1.still hb) nq0 nq1 (rs1.still hb) (rs2.still hb) (rs3.still hb) ns1 ns2 ns3 rr (Nat.le_trans hS.size lg)) (hF.out _ _ _ _ _)) ?_ (by kernel_rfl) (at_list rfl)
  exact AllReadyH.nil)
 have st6:Hid (∀ (cur:World) (q0 q1 s1 s2 s3 g9 g10:Nat),Below V.heap.size V cur→RW cur q0 0 [pA p oh]→RW cur q1 0 [pA p oh]→V.heap.size≤q0→V.heap.size≤q1→RW cur s1 0 [pA p oh]→RW cur s2 0 [.int .i64 0]→RW cur s3 0 [.int .i64 0]→V.heap.size≤s1→V.heap.size≤s2→V.heap.size≤s3→RW cur g9 0 [.nilFunc,.nilFunc,.nilFunc]→V.heap.size≤g9→RW cur g10 0 [.nilFunc,.nilFunc,.nilFunc]→V.heap.size≤g10→g9≠g10→G 3 #[true,true,true,true,true,true,true,true,false,true,true,false,false] (F (pA g9 0) (pA g10 0) (.agg #[clo 98 #[pA q0 0],clo 81 #[pA q1 0],clo 84 #[pA q1 0]]) (.agg #[clo 80 #[pA s1 0,pA s2 0,pA s3 0],clo 81 #[pA s1 0],clo 84 #[pA s1 0]]) (undef)) cur):=Hid.mk' (by
  intro cur q0 q1 s1 s2 s3 g9 g10 hS rq0 rq1 nq0 nq1 rs1 rs2 rs3 ns1 ns2 ns3 r9 n9 r10 n10 d
  rw [hF.out,hG.out]
  clear st0 st1 st3 st4 st5
  refine wpAnyH_ready (rs:=[8]) (by kernel_rfl) (by simp) ?_
  refine arC _ (unw_any 80 81 84 #[pA s1 0,pA s2 0,pA s3 0] #[pA s1 0] #[pA s1 0] cur) (fun e w1 h=>by obtain ⟨rfl,hb⟩:=h;exact ⟨_,rfl,below_next hS hb,dagW hG (st2.out w1 q0 q1 s1 s2 s3 g9 g10 (below_next hS hb) (rq0.still hb) (rq1.still hb) nq0 nq1 (rs1.still hb) (rs2.still hb) (rs3.still hb) ns1 ns2 ns3 (r9.still hb) n9 (r10.still hb) n10 d) (hF.out _ _ _ _ _)⟩) ?_ (at_list rfl)
  exact AllReadyH.nil)
 have st7:Hid (∀ (cur:World) (q0 q1 s1 s2 s3 g9:Nat),Below V.heap.size V cur→RW cur q0 0 [pA p oh]→RW cur q1 0 [pA p oh]→V.heap.size≤q0→V.heap.size≤q1→RW cur s1 0 [pA p oh]→RW cur s2 0 [.int .i64 0]→RW cur s3 0 [.int .i64 0]→V.heap.size≤s1→V.heap.size≤s2→V.heap.size≤s3→RW cur g9 0 [.nilFunc,.nilFunc,.nilFunc]→V.heap.size≤g9→G 4 #[true,true,true,true,true,true,true,true,false,true,false,false,false] (F (pA g9 0) (undef) (.agg #[clo 98 #[pA q0 0],clo 81 #[pA q1 0],clo 84 #[pA q1 0]]) (.agg #[clo 80 #[pA s1 0,pA s2 0,pA s3 0],clo 81 #[pA s1 0],clo 84 #[pA s1 0]]) (undef)) cur):=Hid.mk' (by
  intro cur q0 q1 s1 s2 s3 g9 hS rq0 rq1 nq0 nq1 rs1 rs2 rs3 ns1 ns2 ns3 r9 n9
  rw [hF.out,hG.out]
  clear st0 st1 st2 st4 st5
  refine wpAnyH_ready (rs:=[8,10]) (by kernel_rfl) (by simp) ?_
  refine arC _ (unw_any 80 81 84 #[pA s1 0,pA s2 0,pA s3 0] #[pA s1 0] #[pA s1 0] cur) (fun e w1 h=>by obtain ⟨rfl,hb⟩:=h;exact ⟨_,rfl,below_next hS hb,dagW hG (st3.out w1 q0 q1 s1 s2 s3 g9 (below_next hS hb) (rq0.still hb) (rq1.still hb) nq0 nq1 (rs1.still hb) (rs2.still hb) (rs3.still hb) ns1 ns2 ns3 (r9.still hb) n9) (hF.out _ _ _ _ _)⟩) ?_ (at_list rfl)
  refine aG _ (fun g=>pA g 0) [.nilFunc,.nilFunc,.nilFunc] 102 (fun u hb=>below_next hS hb) (fun w1 g10 lg hb rr=>dagW hG (st6.out w1 q0 q1 s1 s2 s3 g9 g10 (below_next hS hb) (rq0.still hb) (rq1.still hb) nq0 nq1 (rs1.still hb) (rs2.still hb) (rs3.still hb) ns1 ns2 ns3 (r9.still hb) n9 rr (Nat.le_trans hS.size lg) (fun e=>by have:=r9.lt;omega)) (hF.out _ _ _ _ _)) ?_ (by kernel_rfl) (at_list rfl)
  exact AllReadyH.nil)
 have st8:Hid (∀ (cur:World) (q0 q1 s1 s2 s3 g10:Nat),Below V.heap.size V cur→RW cur q0 0 [pA p oh]→RW cur q1 0 [pA p oh]→V.heap.size≤q0→V.heap.size≤q1→RW cur s1 0 [pA p oh]→RW cur s2 0 [.int .i64 0]→RW cur s3 0 [.int .i64 0]→V.heap.size≤s1→V.heap.size≤s2→V.heap.size≤s3→RW cur g10 0 [.nilFunc,.nilFunc,.nilFunc]→V.heap.size≤g10→G 4 #[true,true,true,true,true,true,true,true,false,false,true,false,false] (F (undef) (pA g10 0) (.agg #[clo 98 #[pA q0 0],clo 81 #[pA q1 0],clo 84 #[pA q1 0]]) (.agg #[clo 80 #[pA s1 0,pA s2 0,pA s3 0],clo 81 #[pA s1 0],clo 84 #[pA s1 0]]) (undef)) cur):=Hid.mk' (by
  intro cur q0 q1 s1 s2 s3 g10 hS rq0 rq1 nq0 nq1 rs1 rs2 rs3 ns1 ns2 ns3 r10 n10
  rw [hF.out,hG.out]
  clear st0 st1 st2 st3 st5 st7
  refine wpAnyH_ready (rs:=[8,9]) (by kernel_rfl) (by simp) ?_
  refine arC _ (unw_any 80 81 84 #[pA s1 0,pA s2 0,pA s3 0] #[pA s1 0] #[pA s1 0] cur) (fun e w1 h=>by obtain ⟨rfl,hb⟩:=h;exact ⟨_,rfl,below_next hS hb,dagW hG (st4.out w1 q0 q1 s1 s2 s3 g10 (below_next hS hb) (rq0.still hb) (rq1.still hb) nq0 nq1 (rs1.still hb) (rs2.still hb) (rs3.still hb) ns1 ns2 ns3 (r10.still hb) n10) (hF.out _ _ _ _ _)⟩) ?_ (at_list rfl)
  refine aG _ (fun g=>pA g 0) [.nilFunc,.nilFunc,.nilFunc] 102 (fun u hb=>below_next hS hb) (fun w1 g9 lg hb rr=>dagW hG (st6.out w1 q0 q1 s1 s2 s3 g9 g10 (below_next hS hb) (rq0.still hb) (rq1.still hb) nq0 nq1 (rs1.still hb) (rs2.still hb) (rs3.still hb) ns1 ns2 ns3 rr (Nat.le_trans hS.size lg) (r10.still hb) n10 (fun e=>by have:=r10.lt;omega)) (hF.out _ _ _ _ _)) ?_ (by kernel_rfl) (at_list rfl)
  exact AllReadyH.nil)
 have st9:Hid (∀ (cur:World) (q0 q1 s1 s2 s3:Nat),Below V.heap.size V cur→RW cur q0 0 [pA p oh]→RW cur q1 0 [pA p oh]→V.heap.size≤q0→V.heap.size≤q1→RW cur s1 0 [pA p oh]→RW cur s2 0 [.int .i64 0]→RW cur s3 0 [.int .i64 0]→V.heap.size≤s1→V.heap.size≤s2→V.heap.size≤s3→G 5 #[true,true,true,true,true,true,true,true,false,false,false,false,false] (F (undef) (undef) (.agg #[clo 98 #[pA q0 0],clo 81 #[pA q1 0],clo 84 #[pA q1 0]]) (.agg #[clo 80 #[pA s1 0,pA s2 0,pA s3 0],clo 81 #[pA s1 0],clo 84 #[pA s1 0]]) (undef)) cur):=Hid.mk' (by
  intro cur q0 q1 s1 s2 s3 hS rq0 rq1 nq0 nq1 rs1 rs2 rs3 ns1 ns2 ns3
  rw [hF.out,hG.out]
  clear st0 st1 st2 st3 st4 st6
  refine wpAnyH_ready (rs:=[8,9,10]) (by kernel_rfl) (by simp) ?_
  refine arC _ (unw_any 80 81 84 #[pA s1 0,pA s2 0,pA s3 0] #[pA s1 0] #[pA s1 0] cur) (fun e w1 h=>by obtain ⟨rfl,hb⟩:=h;exact ⟨_,rfl,below_next hS hb,dagW hG (st5.out w1 q0 q1 s1 s2 s3 (below_next hS hb) (rq0.still hb) (rq1.still hb) nq0 nq1 (rs1.still hb) (rs2.still hb) (rs3.still hb) ns1 ns2 ns3) (hF.out _ _ _ _ _)⟩) ?_ (at_list rfl)
  refine aG _ (fun g=>pA g 0) [.nilFunc,.nilFunc,.nilFunc] 102 (fun u hb=>below_next hS hb) (fun w1 g9 lg hb rr=>dagW hG (st7.out w1 q0 q1 s1 s2 s3 g9 (below_next hS hb) (rq0.still hb) (rq1.still hb) nq0 nq1 (rs1.still hb) (rs2.still hb) (rs3.still hb) ns1 ns2 ns3 rr (Nat.le_trans hS.size lg)) (hF.out _ _ _ _ _)) ?_ (by kernel_rfl) (at_list rfl)
  refine aG _ (fun g=>pA g 0) [.nilFunc,.nilFunc,.nilFunc] 102 (fun u hb=>below_next hS hb) (fun w1 g10 lg hb rr=>dagW hG (st8.out w1 q0 q1 s1 s2 s3 g10 (below_next hS hb) (rq0.still hb) (rq1.still hb) nq0 nq1 (rs1.still hb) (rs2.still hb) (rs3.still hb) ns1 ns2 ns3 rr (Nat.le_trans hS.size lg)) (hF.out _ _ _ _ _)) ?_ (by kernel_rfl) (at_list rfl)
  exact AllReadyH.nil)
 have st10:Hid (∀ (cur:World) (q0 q1 g9 g10:Nat),Below V.heap.size V cur→RW cur q0 0 [pA p oh]→RW cur q1 0 [pA p oh]→V.heap.size≤q0→V.heap.size≤q1→RW cur g9 0 [.nilFunc,.nilFunc,.nilFunc]→V.heap.size≤g9→RW cur g10 0 [.nilFunc,.nilFunc,.nilFunc]→V.heap.size≤g10→g9≠g10→G 4 #[true,true,true,true,true,true,true,false,false,true,true,false,false] (F (pA g9 0) (pA g10 0) (.agg #[clo 98 #[pA q0 0],clo 81 #[pA q1 0],clo 84 #[pA q1 0]]) (undef) (undef)) cur):=Hid.mk' (by
  intro cur q0 q1 g9 g10 hS rq0 rq1 nq0 nq1 r9 n9 r10 n10 d
  rw [hF.out,hG.out]
  clear st0 st1 st2 st3 st4 st5 st7 st8 st9
  refine wpAnyH_ready (rs:=[7]) (by kernel_rfl) (by simp) ?_
  refine arC _ (vec_any p oh 0 0 cur) (fun e w1 h=>by obtain ⟨F1,rfl,⟨s1,s2,s3,rfl,⟨y1,y2,y3⟩,x1,x2,x3⟩,hb⟩:=h;exact ⟨_,rfl,below_next hS hb,dagW hG (st6.out w1 q0 q1 s1 s2 s3 g9 g10 (below_next hS hb) (rq0.still hb) (rq1.still hb) nq0 nq1 x1 x2 x3 (Nat.le_trans hS.size y1) (Nat.le_trans hS.size y2) (Nat.le_trans hS.size y3) (r9.still hb) n9 (r10.still hb) n10 d) (hF.out _ _ _ _ _)⟩) ?_ (at_list rfl)
  exact AllReadyH.nil)
 have st11:Hid (∀ (cur:World) (q0 q1 g9:Nat),Below V.heap.size V cur→RW cur q0 0 [pA p oh]→RW cur q1 0 [pA p oh]→V.heap.size≤q0→V.heap.size≤q1→RW cur g9 0 [.nilFunc,.nilFunc,.nilFunc]→V.heap.size≤g9→G 5 #[true,true,true,true,true,true,true,false,false,true,false,false,false] (F (pA g9 0) (undef) (.agg #[clo 98 #[pA q0 0],clo 81 #[pA q1 0],clo 84 #[pA q1 0]]) (undef) (undef)) cur):=Hid.mk' (by
  intro cur q0 q1 g9 hS rq0 rq1 nq0 nq1 r9 n9
  rw [hF.out,hG.out]
  clear st0 st1 st2 st3 st4 st5 st6 st8 st9
  refine wpAnyH_ready (rs:=[7,10]) (by kernel_rfl) (by simp) ?_
  refine arC _ (vec_any p oh 0 0 cur) (fun e w1 h=>by obtain ⟨F1,rfl,⟨s1,s2,s3,rfl,⟨y1,y2,y3⟩,x1,x2,x3⟩,hb⟩:=h;exact ⟨_,rfl,below_next hS hb,dagW hG (st7.out w1 q0 q1 s1 s2 s3 g9 (below_next hS hb) (rq0.still hb) (rq1.still hb) nq0 nq1 x1 x2 x3 (Nat.le_trans hS.size y1) (Nat.le_trans hS.size y2) (Nat.le_trans hS.size y3) (r9.still hb) n9) (hF.out _ _ _ _ _)⟩) ?_ (at_list rfl)
  refine aG _ (fun g=>pA g 0) [.nilFunc,.nilFunc,.nilFunc] 102 (fun u hb=>below_next hS hb) (fun w1 g10 lg hb rr=>dagW hG (st10.out w1 q0 q1 g9 g10 (below_next hS hb) (rq0.still hb) (rq1.still hb) nq0 nq1 (r9.still hb) n9 rr (Nat.le_trans hS.size lg) (fun e=>by have:=r9.lt;omega)) (hF.out _ _ _ _ _)) ?_ (by kernel_rfl) (at_list rfl)
  exact AllReadyH.nil)
 have st12:Hid (∀ (cur:World) (q0 q1 g10:Nat),Below V.heap.size V cur→RW cur q0 0 [pA p oh]→RW cur q1 0 [pA p oh]→V.heap.size≤q0→V.heap.size≤q1→RW cur g10 0 [.nilFunc,.nilFunc,.nilFunc]→V.heap.size≤g10→G 5 #[true,true,true,true,true,true,true,false,false,false,true,false,false] (F (undef) (pA g10 0) (.agg #[clo 98 #[pA q0 0],clo 81 #[pA q1 0],clo 84 #[pA q1 0]]) (undef) (undef)) cur):=Hid.mk' (by
  intro cur q0 q1 g10 hS rq0 rq1 nq0 nq1 r10 n10
  rw [hF.out,hG.out]
  clear st0 st1 st2 st3 st4 st5 st6 st7 st9 st11
  refine wpAnyH_ready (rs:=[7,9]) (by kernel_rfl) (by simp) ?_
  refine arC _ (vec_any p oh 0 0 cur) (fun e w1 h=>by obtain ⟨F1,rfl,⟨s1,s2,s3,rfl,⟨y1,y2,y3⟩,x1,x2,x3⟩,hb⟩:=h;exact ⟨_,rfl,below_next hS hb,dagW hG (st8.out w1 q0 q1 s1 s2 s3 g10 (below_next hS hb) (rq0.still hb) (rq1.still hb) nq0 nq1 x1 x2 x3 (Nat.le_trans hS.size y1) (Nat.le_trans hS.size y2) (Nat.le_trans hS.size y3) (r10.still hb) n10) (hF.out _ _ _ _ _)⟩) ?_ (at_list rfl)
  refine aG _ (fun g=>pA g 0) [.nilFunc,.nilFunc,.nilFunc] 102 (fun u hb=>below_next hS hb) (fun w1 g9 lg hb rr=>dagW hG (st10.out w1 q0 q1 g9 g10 (below_next hS hb) (rq0.still hb) (rq1.still hb) nq0 nq1 rr (Nat.le_trans hS.size lg) (r10.still hb) n10 (fun e=>by have:=r10.lt;omega)) (hF.out _ _ _ _ _)) ?_ (by kernel_rfl) (at_list rfl)
  exact AllReadyH.nil)
 have st13:Hid (∀ (cur:World) (q0 q1:Nat),Below V.heap.size V cur→RW cur q0 0 [pA p oh]→RW cur q1 0 [pA p oh]→V.heap.size≤q0→V.heap.size≤q1→G 6 #[true,true,true,true,true,true,true,false,false,false,false,false,false] (F (undef) (undef) (.agg #[clo 98 #[pA q0 0],clo 81 #[pA q1 0],clo 84 #[pA q1 0]]) (undef) (undef)) cur):=Hid.mk' (by
  intro cur q0 q1 hS rq0 rq1 nq0 nq1
  rw [hF.out,hG.out]
  clear st0 st1 st2 st3 st4 st5 st6 st7 st8 st10
  refine wpAnyH_ready (rs:=[7,9,10]) (by kernel_rfl) (by simp) ?_
  refine arC _ (vec_any p oh 0 0 cur) (fun e w1 h=>by obtain ⟨F1,rfl,⟨s1,s2,s3,rfl,⟨y1,y2,y3⟩,x1,x2,x3⟩,hb⟩:=h;exact ⟨_,rfl,below_next hS hb,dagW hG (st9.out w1 q0 q1 s1 s2 s3 (below_next hS hb) (rq0.still hb) (rq1.still hb) nq0 nq1 x1 x2 x3 (Nat.le_trans hS.size y1) (Nat.le_trans hS.size y2) (Nat.le_trans hS.size y3)) (hF.out _ _ _ _ _)⟩) ?_ (at_list rfl)
  refine aG _ (fun g=>pA g 0) [.nilFunc,.nilFunc,.nilFunc] 102 (fun u hb=>below_next hS hb) (fun w1 g9 lg hb rr=>dagW hG (st11.out w1 q0 q1 g9 (below_next hS hb) (rq0.still hb) (rq1.still hb) nq0 nq1 rr (Nat.le_trans hS.size lg)) (hF.out _ _ _ _ _)) ?_ (by kernel_rfl) (at_list rfl)
  refine aG _ (fun g=>pA g 0) [.nilFunc,.nilFunc,.nilFunc] 102 (fun u hb=>below_next hS hb) (fun w1 g10 lg hb rr=>dagW hG (st12.out w1 q0 q1 g10 (below_next hS hb) (rq0.still hb) (rq1.still hb) nq0 nq1 rr (Nat.le_trans hS.size lg)) (hF.out _ _ _ _ _)) ?_ (by kernel_rfl) (at_list rfl)
  exact AllReadyH.nil)
 have st14:Hid (∀ (cur:World) (g9 g10:Nat),Below V.heap.size V cur→RW cur g9 0 [.nilFunc,.nilFunc,.nilFunc]→V.heap.size≤g9→RW cur g10 0 [.nilFunc,.nilFunc,.nilFunc]→V.heap.size≤g10→g9≠g10→G 5 #[true,true,true,false,true,true,true,false,false,true,true,false,false] (F (pA g9 0) (pA g10 0) (undef) (undef) (undef)) cur):=Hid.mk' (by
  intro cur g9 g10 hS r9 n9 r10 n10 d
  rw [hF.out,hG.out]
  clear st0 st1 st2 st3 st4 st5 st6 st7 st8 st9 st11 st12 st13
  refine wpAnyH_ready (rs:=[3]) (by kernel_rfl) (by simp) ?_
  refine arC _ (hon_any p oh cur) (fun e w1 h=>by obtain ⟨F1,rfl,⟨q0,q1,rfl,⟨y1,y2⟩,x1,x2⟩,hb⟩:=h;exact ⟨_,rfl,below_next hS hb,dagW hG (st10.out w1 q0 q1 g9 g10 (below_next hS hb) x1 x2 (Nat.le_trans hS.size y1) (Nat.le_trans hS.size y2) (r9.still hb) n9 (r10.still hb) n10 d) (hF.out _ _ _ _ _)⟩) ?_ (at_list rfl)
  exact AllReadyH.nil)
 have st15:Hid (∀ (cur:World) (g9:Nat),Below V.heap.size V cur→RW cur g9 0 [.nilFunc,.nilFunc,.nilFunc]→V.heap.size≤g9→G 6 #[true,true,true,false,true,true,true,false,false,true,false,false,false] (F (pA g9 0) (undef) (undef) (undef) (undef)) cur):=Hid.mk' (by
  intro cur g9 hS r9 n9
  rw [hF.out,hG.out]
  clear st0 st1 st2 st3 st4 st5 st6 st7 st8 st9 st10 st12 st13
  refine wpAnyH_ready (rs:=[3,10]) (by kernel_rfl) (by simp) ?_
  refine arC _ (hon_any p oh cur) (fun e w1 h=>by obtain ⟨F1,rfl,⟨q0,q1,rfl,⟨y1,y2⟩,x1,x2⟩,hb⟩:=h;exact ⟨_,rfl,below_next hS hb,dagW hG (st11.out w1 q0 q1 g9 (below_next hS hb) x1 x2 (Nat.le_trans hS.size y1) (Nat.le_trans hS.size y2) (r9.still hb) n9) (hF.out _ _ _ _ _)⟩) ?_ (at_list rfl)
  refine aG _ (fun g=>pA g 0) [.nilFunc,.nilFunc,.nilFunc] 102 (fun u hb=>below_next hS hb) (fun w1 g10 lg hb rr=>dagW hG (st14.out w1 g9 g10 (below_next hS hb) (r9.still hb) n9 rr (Nat.le_trans hS.size lg) (fun e=>by have:=r9.lt;omega)) (hF.out _ _ _ _ _)) ?_ (by kernel_rfl) (at_list rfl)
  exact AllReadyH.nil)
 have st16:Hid (∀ (cur:World) (g10:Nat),Below V.heap.size V cur→RW cur g10 0 [.nilFunc,.nilFunc,.nilFunc]→V.heap.size≤g10→G 6 #[true,true,true,false,true,true,true,false,false,false,true,false,false] (F (undef) (pA g10 0) (undef) (undef) (undef)) cur):=Hid.mk' (by
  intro cur g10 hS r10 n10
  rw [hF.out,hG.out]
  clear st0 st1 st2 st3 st4 st5 st6 st7 st8 st9 st10 st11 st13 st15
  refine wpAnyH_ready (rs:=[3,9]) (by kernel_rfl) (by simp) ?_
  refine arC _ (hon_any p oh cur) (fun e w1 h=>by obtain ⟨F1,rfl,⟨q0,q1,rfl,⟨y1,y2⟩,x1,x2⟩,hb⟩:=h;exact ⟨_,rfl,below_next hS hb,dagW hG (st12.out w1 q0 q1 g10 (below_next hS hb) x1 x2 (Nat.le_trans hS.size y1) (Nat.le_trans hS.size y2) (r10.still hb) n10) (hF.out _ _ _ _ _)⟩) ?_ (at_list rfl)
  refine aG _ (fun g=>pA g 0) [.nilFunc,.nilFunc,.nilFunc] 102 (fun u hb=>below_next hS hb) (fun w1 g9 lg hb rr=>dagW hG (st14.out w1 g9 g10 (below_next hS hb) rr (Nat.le_trans hS.size lg) (r10.still hb) n10 (fun e=>by have:=r10.lt;omega)) (hF.out _ _ _ _ _)) ?_ (by kernel_rfl) (at_list rfl)
  exact AllReadyH.nil)
 have st17:Hid (∀ (cur:World),Below V.heap.size V cur→G 7 #[true,true,true,false,true,true,true,false,false,false,false,false,false] (F (undef) (undef) (undef) (undef) (undef)) cur):=Hid.mk' (by
  intro cur  hS 
  rw [hF.out,hG.out]
  clear st0 st1 st2 st3 st4 st5 st6 st7 st8 st9 st10 st11 st12 st14
  refine wpAnyH_ready (rs:=[3,9,10]) (by kernel_rfl) (by simp) ?_
  refine arC _ (hon_any p oh cur) (fun e w1 h=>by obtain ⟨F1,rfl,⟨q0,q1,rfl,⟨y1,y2⟩,x1,x2⟩,hb⟩:=h;exact ⟨_,rfl,below_next hS hb,dagW hG (st13.out w1 q0 q1 (below_next hS hb) x1 x2 (Nat.le_trans hS.size y1) (Nat.le_trans hS.size y2)) (hF.out _ _ _ _ _)⟩) ?_ (at_list rfl)
  refine aG _ (fun g=>pA g 0) [.nilFunc,.nilFunc,.nilFunc] 102 (fun u hb=>below_next hS hb) (fun w1 g9 lg hb rr=>dagW hG (st15.out w1 g9 (below_next hS hb) rr (Nat.le_trans hS.size lg)) (hF.out _ _ _ _ _)) ?_ (by kernel_rfl) (at_list rfl)
  refine aG _ (fun g=>pA g 0) [.nilFunc,.nilFunc,.nilFunc] 102 (fun u hb=>below_next hS hb) (fun w1 g10 lg hb rr=>dagW hG (st16.out w1 g10 (below_next hS hb) rr (Nat.le_trans hS.size lg)) (hF.out _ _ _ _ _)) ?_ (by kernel_rfl) (at_list rfl)
  exact AllReadyH.nil)
 rw [hG.out]
 exact dagW hG (st17.out V hS) (hF.out _ _ _ _ _)
end Go.Proofs.Ytgdcmibdjiaofaa
namespace Go.Proofs.Ytgdcmibdjiaofaa
open Go.RowKit
set_option maxRecDepth 20000 in
set_option maxHeartbeats 2000000 in
theorem rLenR_err (g L:Nat) (B:Nat→Nat) (r:Rd) (he:r.e≠0) (w:World) (h:RdR w g L B r):Calls Try.prog 77 #[.pointer (some ⟨g,0,none⟩)] w fun e w'=>e = .returned (.int .i64 0)∧Below w.heap.size w w':=by
 have c2:=h.f2.1
 generalize r.e=er at *
 clear h
 go_enter Try.func77,Try.ntmps77
 go_wp2
 go_ret
 exact ⟨rfl,Below.refl _ _⟩
set_option maxRecDepth 20000 in
set_option maxHeartbeats 2000000 in
theorem rLenR_empty (g L:Nat) (B:Nat→Nat) (r:Rd) (he:r.e=0) (hL:L<140737488355000) (hq:L=r.at_) (w:World) (h:RdR w g L B r):Calls Try.prog 77 #[.pointer (some ⟨g,0,none⟩)] w fun e w'=>e = .returned (.int .i64 0)∧RdR w' g L B ⟨r.at_,20⟩∧Out g 1 2 w w':=by
 obtain ⟨c2,z2⟩:=h.f2
 rw [he] at c2
 have cl:=rLeft11_any g L B r hL w h
 rw [show (L:Int) - (r.at_:Int)=0 by omega] at cl
 have Hh:=Hid.mk' h
 have gl:=h.lt
 clear h
 go_enter Try.func77,Try.ntmps77
 go_wp2_with (go_at_call 70;refine cl.mono ?_;clear cl;rintro e w1 ⟨rfl,b1⟩;have Hh1:=Hid.mk' (Hh.out.keep b1);obtain ⟨d2,z2'⟩:=Hh1.out.f2)
 go_ret
 exact ⟨rfl,Hh1.out.setE 20,(Out.of_below b1 gl).trans (Out.setCell _ _ (by decide) (by decide))⟩
set_option maxRecDepth 20000 in
set_option maxHeartbeats 2000000 in
theorem rLenR_three (g L:Nat) (B:Nat→Nat) (lB:∀ j,B j<256) (r:Rd) (he:r.e=0) (hL:L<140737488355000) (hq:r.at_<L) (ht:B r.at_ / 64=3) (w:World) (h:RdR w g L B r):Calls Try.prog 77 #[.pointer (some ⟨g,0,none⟩)] w fun e w'=>e = .returned (.int .i64 0)∧RdR w' g L B ⟨r.at_,21⟩∧Out g 1 2 w w':=by
 obtain ⟨c2,z2⟩:=h.f2
 rw [he] at c2
 have cl:=rLeft11_any g L B r hL w h
 obtain ⟨x,hx⟩:∃ x:Int,x=(L:Int) - (r.at_:Int):=⟨_,rfl⟩
 rw [←hx] at cl
 have t1:¬x=0:=by omega
 have Hh:=Hid.mk' h
 have gl:=h.lt
 have hy:=lB r.at_
 have t4:(0:Int)≤(r.at_:Int)∧(r.at_:Int)<(L:Int):=by omega
 clear h hx
 go_enter Try.func77,Try.ntmps77
 go_wp2_with (go_at_call 70;refine cl.mono ?_;clear cl;rintro e w1 ⟨rfl,b1⟩;have Hh1:=Hid.mk' (Hh.out.keep b1);obtain ⟨d2,z2'⟩:=Hh1.out.f2)
 have bd:Below w1.heap.size w1 w1.drew:=(Below.refl _ _).drew
 have bw:=below_next b1 bd
 have Hd:=Hid.mk' (Hh1.out.keep bd)
 obtain ⟨v,rr,hv,-⟩:=Hd.out
 rcases hv with ⟨xo,rfl,h0⟩ | ⟨bb,ob,cap,rfl,hbb,hc,hcell⟩
 · omega
 have f0:w1.drew.cell? ⟨g,0,none⟩=some (.slice (some ⟨bb,ob,none⟩) L cap):=rr.range 0 _ rfl
 have f1:w1.drew.cell? ⟨g,1,none⟩=some (.int .i64 (r.at_:Int)):=rr.range 1 _ rfl
 have f3:=hcell r.at_ hq
 obtain ⟨d3,z3⟩:=Hd.out.f2
 clear hcell rr
 obtain ⟨a,ha⟩:∃ a,a=r.at_:=⟨_,rfl⟩
 have HA:=Hid.mk' ha
 rw [←ha] at f1 f3 t4 hy ht
 obtain ⟨y,hy'⟩:∃ y,y=B a:=⟨_,rfl⟩
 rw [←hy'] at f3 hy ht
 clear hy' ha
 have e1:(y:Int) / 64=3:=by omega
 have e2:(y:Int) / 2 ^ 6=3:=by omega
 go_region
 go_wp2
 go_ret
 exact ⟨rfl,Hd.out.setE 21,(Out.of_below bw gl).trans (Out.setCell _ _ (by decide) (by decide))⟩
set_option maxRecDepth 20000 in
set_option maxHeartbeats 2000000 in
theorem rLenR_end2 (g L:Nat) (B:Nat→Nat) (lB:∀ j,B j<256) (r:Rd) (he:r.e=0) (hL:L<140737488355000) (hq:r.at_<L) (ht:B r.at_ / 64=1) (h2:L<r.at_+2) (w:World) (h:RdR w g L B r):Calls Try.prog 77 #[.pointer (some ⟨g,0,none⟩)] w fun e w'=>e = .returned (.int .i64 0)∧RdR w' g L B ⟨r.at_,20⟩∧Out g 1 2 w w':=by
 obtain ⟨c2,z2⟩:=h.f2
 rw [he] at c2
 have cl:=rLeft11_any g L B r hL w h
 have cl2:∀ w1,Below w.heap.size w w1→_:=fun w1 b1=>rLeft11_any g L B r hL w1 (h.keep b1)
 obtain ⟨x,hx⟩:∃ x:Int,x=(L:Int) - (r.at_:Int):=⟨_,rfl⟩
 simp only [←hx] at cl cl2
 have t1:¬x=0:=by omega
 have t2:x<2:=by omega
 have Hh:=Hid.mk' h
 have gl:=h.lt
 have hy:=lB r.at_
 have t4:(0:Int)≤(r.at_:Int)∧(r.at_:Int)<(L:Int):=by omega
 clear h hx
 go_enter Try.func77,Try.ntmps77
 go_wp2_with (go_at_call 70;refine cl.mono ?_;clear cl;rintro e w1 ⟨rfl,b1⟩;have Hh1:=Hid.mk' (Hh.out.keep b1);obtain ⟨d2,z2'⟩:=Hh1.out.f2)
 have bd:Below w1.heap.size w1 w1.drew:=(Below.refl _ _).drew
 have bw:=below_next b1 bd
 have Hd:=Hid.mk' (Hh1.out.keep bd)
 obtain ⟨v,rr,hv,-⟩:=Hd.out
 rcases hv with ⟨xo,rfl,h0⟩ | ⟨bb,ob,cap,rfl,hbb,hc,hcell⟩
 · omega
 have f0:w1.drew.cell? ⟨g,0,none⟩=some (.slice (some ⟨bb,ob,none⟩) L cap):=rr.range 0 _ rfl
 have f1:w1.drew.cell? ⟨g,1,none⟩=some (.int .i64 (r.at_:Int)):=rr.range 1 _ rfl
 have f3:=hcell r.at_ hq
 obtain ⟨d3,z3⟩:=Hd.out.f2
 clear hcell rr
 obtain ⟨a,ha⟩:∃ a,a=r.at_:=⟨_,rfl⟩
 have HA:=Hid.mk' ha
 rw [←ha] at f1 f3 t4 hy ht
 obtain ⟨y,hy'⟩:∃ y,y=B a:=⟨_,rfl⟩
 rw [←hy'] at f3 hy ht
 clear hy' ha
 have e1:(y:Int) / 64=1:=by omega
 have e2:(y:Int) / 2 ^ 6=1:=by omega
 replace cl2:=cl2 _ bw
 go_region
 go_wp2_with (go_at_call 70;refine cl2.mono ?_;clear cl2;rintro e w2 ⟨rfl,b2⟩;have Hh2:=Hid.mk' (Hd.out.keep b2);obtain ⟨d4,z4⟩:=Hh2.out.f2)
 go_ret
 exact ⟨rfl,Hh2.out.setE 20,(Out.of_below (below_next bw b2) gl).trans (Out.setCell _ _ (by decide) (by decide))⟩
set_option maxRecDepth 20000 in
set_option maxHeartbeats 2000000 in
theorem rLenR_end4 (g L:Nat) (B:Nat→Nat) (lB:∀ j,B j<256) (r:Rd) (he:r.e=0) (hL:L<140737488355000) (hq:r.at_<L) (ht:B r.at_ / 64=2) (h2:L<r.at_+4) (w:World) (h:RdR w g L B r):Calls Try.prog 77 #[.pointer (some ⟨g,0,none⟩)] w fun e w'=>e = .returned (.int .i64 0)∧RdR w' g L B ⟨r.at_,20⟩∧Out g 1 2 w w':=by
 obtain ⟨c2,z2⟩:=h.f2
 rw [he] at c2
 have cl:=rLeft11_any g L B r hL w h
 have cl2:∀ w1,Below w.heap.size w w1→_:=fun w1 b1=>rLeft11_any g L B r hL w1 (h.keep b1)
 obtain ⟨x,hx⟩:∃ x:Int,x=(L:Int) - (r.at_:Int):=⟨_,rfl⟩
 simp only [←hx] at cl cl2
 have t1:¬x=0:=by omega
 have t2:x<4:=by omega
 have Hh:=Hid.mk' h
 have gl:=h.lt
 have hy:=lB r.at_
 have t4:(0:Int)≤(r.at_:Int)∧(r.at_:Int)<(L:Int):=by omega
 clear h hx
 go_enter Try.func77,Try.ntmps77
 go_wp2_with (go_at_call 70;refine cl.mono ?_;clear cl;rintro e w1 ⟨rfl,b1⟩;have Hh1:=Hid.mk' (Hh.out.keep b1);obtain ⟨d2,z2'⟩:=Hh1.out.f2)
 have bd:Below w1.heap.size w1 w1.drew:=(Below.refl _ _).drew
 have bw:=below_next b1 bd
 have Hd:=Hid.mk' (Hh1.out.keep bd)
 obtain ⟨v,rr,hv,-⟩:=Hd.out
 rcases hv with ⟨xo,rfl,h0⟩ | ⟨bb,ob,cap,rfl,hbb,hc,hcell⟩
 · omega
 have f0:w1.drew.cell? ⟨g,0,none⟩=some (.slice (some ⟨bb,ob,none⟩) L cap):=rr.range 0 _ rfl
 have f1:w1.drew.cell? ⟨g,1,none⟩=some (.int .i64 (r.at_:Int)):=rr.range 1 _ rfl
 have f3:=hcell r.at_ hq
 obtain ⟨d3,z3⟩:=Hd.out.f2
 clear hcell rr
 obtain ⟨a,ha⟩:∃ a,a=r.at_:=⟨_,rfl⟩
 have HA:=Hid.mk' ha
 rw [←ha] at f1 f3 t4 hy ht
 obtain ⟨y,hy'⟩:∃ y,y=B a:=⟨_,rfl⟩
 rw [←hy'] at f3 hy ht
 clear hy' ha
 have e1:(y:Int) / 64=2:=by omega
 have e2:(y:Int) / 2 ^ 6=2:=by omega
 replace cl2:=cl2 _ bw
 go_region
 go_wp2_with (go_at_call 70;refine cl2.mono ?_;clear cl2;rintro e w2 ⟨rfl,b2⟩;have Hh2:=Hid.mk' (Hd.out.keep b2);obtain ⟨d4,z4⟩:=Hh2.out.f2)
 go_ret
 exact ⟨rfl,Hh2.out.setE 20,(Out.of_below (below_next bw b2) gl).trans (Out.setCell _ _ (by decide) (by decide))⟩
end Go.Proofs.Ytgdcmibdjiaofaa
namespace Go.Proofs.Ytgdcmibdjiaofaa
open Go.RowKit
theorem and_mask (N k:Nat) (hk:k≤62) (hN:N<9223372036854775808):bits .and .i64 (N:Int) ((2 ^ k - 1:Nat):Int)=((N%2 ^ k:Nat):Int):=by
 have h1:(2:Nat) ^ k≤2 ^ 62:=Nat.pow_le_pow_right (by decide) hk
 have h2:(2:Nat) ^ 62=4611686018427387904:=by decide
 have h3:(2:Nat) ^ k - 1<9223372036854775808:=by omega
 refine (i64_and_nat _ _ hN h3).trans ?_
 rw [Nat.and_two_pow_sub_one_eq_mod]
set_option maxRecDepth 20000 in
set_option maxHeartbeats 2000000 in
theorem rLenR_form2 (g L:Nat) (B:Nat→Nat) (lB:∀ j,B j<256) (r:Rd) (he:r.e=0) (hL:L<140737488355000) (hq:r.at_<L) (ht:B r.at_ / 64=1) (h2:r.at_+2≤L) (h3:nbN B r.at_ 2%16384<64) (w:World) (h:RdR w g L B r):Calls Try.prog 77 #[.pointer (some ⟨g,0,none⟩)] w fun e w'=>e = .returned (.int .i64 0)∧RdR w' g L B ⟨r.at_,21⟩∧Out g 1 2 w w':=by
 obtain ⟨c2,z2⟩:=h.f2
 rw [he] at c2
 have cl:=rLeft11_any g L B r hL w h
 have cl2:∀ w1,Below w.heap.size w w1→_:=fun w1 b1=>rLeft11_any g L B r hL w1 (h.keep b1)
 obtain ⟨N,hN⟩:∃ N,N=nbN B r.at_ 2:=⟨_,rfl⟩
 have hNl:N<9223372036854775808:=by rw [hN];exact nbN_small lB r.at_ 2 (by decide) (by omega) 2 (Nat.le_refl _)
 have cn:∀ w1,Below w.heap.size w w1→Calls Try.prog 76 #[.pointer (some ⟨g,0,none⟩),.int .i64 2] w1 fun e w'=>e = .returned (.int .i64 (N:Int))∧Below w1.heap.size w1 w':=fun w1 b1=>by
  rw [hN];exact rnumber_any g L 2 B r lB (by decide) hL h2 (nbN_small lB r.at_ 2 (by decide) (by omega)) w1 (h.keep b1)
 have em:bits .and .i64 (N:Int) 16383=((N%16384:Nat):Int):=and_mask N 14 (by decide) hNl
 obtain ⟨x,hx⟩:∃ x:Int,x=(L:Int) - (r.at_:Int):=⟨_,rfl⟩
 simp only [←hx] at cl cl2
 have t1:¬x=0:=by omega
 have t2:¬x<2:=by omega
 rw [←hN] at h3
 obtain ⟨n,hn⟩:∃ n,n=N%16384:=⟨_,rfl⟩
 rw [←hn] at em h3
 obtain ⟨z,hz⟩:∃ z:Int,z=(n:Int):=⟨_,rfl⟩
 rw [←hz] at em
 have t3:z<64:=by omega
 clear hz
 clear hn h3
 have Hh:=Hid.mk' h
 have gl:=h.lt
 have hy:=lB r.at_
 have t4:(0:Int)≤(r.at_:Int)∧(r.at_:Int)<(L:Int):=by omega
 clear h hx hN
 go_enter Try.func77,Try.ntmps77
 go_wp2_with (go_at_call 70;refine cl.mono ?_;clear cl;rintro e w1 ⟨rfl,b1⟩;have Hh1:=Hid.mk' (Hh.out.keep b1);obtain ⟨d2,z2'⟩:=Hh1.out.f2)
 have bd:Below w1.heap.size w1 w1.drew:=(Below.refl _ _).drew
 have bw:=below_next b1 bd
 have Hd:=Hid.mk' (Hh1.out.keep bd)
 obtain ⟨v,rr,hv,-⟩:=Hd.out
 rcases hv with ⟨xo,rfl,h0⟩ | ⟨bb,ob,cap,rfl,hbb,hc,hcell⟩
 · omega
 have f0:w1.drew.cell? ⟨g,0,none⟩=some (.slice (some ⟨bb,ob,none⟩) L cap):=rr.range 0 _ rfl
 have f1:w1.drew.cell? ⟨g,1,none⟩=some (.int .i64 (r.at_:Int)):=rr.range 1 _ rfl
 have f3:=hcell r.at_ hq
 obtain ⟨d3,z3⟩:=Hd.out.f2
 clear hcell rr
 obtain ⟨a,ha⟩:∃ a,a=r.at_:=⟨_,rfl⟩
 have HA:=Hid.mk' ha
 rw [←ha] at f1 f3 t4 hy ht
 obtain ⟨y,hy'⟩:∃ y,y=B a:=⟨_,rfl⟩
 rw [←hy'] at f3 hy ht
 clear hy' ha
 have e1:(y:Int) / 64=1:=by omega
 have e2:(y:Int) / 2 ^ 6=1:=by omega
 replace cl2:=cl2 _ bw
 go_region
 go_wp2_with (first
  | (go_at_call 70;refine cl2.mono ?_;clear cl2;rintro e w2 ⟨rfl,b2⟩;have Hh2:=Hid.mk' (Hd.out.keep b2);have bw2:=below_next bw b2;replace cn:=cn _ bw2)
  | (go_at_call 76;refine cn.mono ?_;clear cn;rintro e w3 ⟨rfl,b3⟩;have Hh3:=Hid.mk' (Hh2.out.keep b3);have bw3:=below_next bw2 b3;obtain ⟨d5,z5⟩:=Hh3.out.f2;obtain ⟨k1,y1⟩:=Hh3.out.f1;rw [←HA.out] at k1))
 go_ret
 exact ⟨rfl,Hh3.out.setE 21,(Out.of_below bw3 gl).trans (Out.setCell _ _ (by decide) (by decide))⟩
set_option maxRecDepth 20000 in
set_option maxHeartbeats 2000000 in
theorem rLenR_form4 (g L:Nat) (B:Nat→Nat) (lB:∀ j,B j<256) (r:Rd) (he:r.e=0) (hL:L<140737488355000) (hq:r.at_<L) (ht:B r.at_ / 64=2) (h2:r.at_+4≤L) (h3:nbN B r.at_ 4%1073741824<16384) (w:World) (h:RdR w g L B r):Calls Try.prog 77 #[.pointer (some ⟨g,0,none⟩)] w fun e w'=>e = .returned (.int .i64 0)∧RdR w' g L B ⟨r.at_,21⟩∧Out g 1 2 w w':=by
 obtain ⟨c2,z2⟩:=h.f2
 rw [he] at c2
 have cl:=rLeft11_any g L B r hL w h
 have cl2:∀ w1,Below w.heap.size w w1→_:=fun w1 b1=>rLeft11_any g L B r hL w1 (h.keep b1)
 obtain ⟨N,hN⟩:∃ N,N=nbN B r.at_ 4:=⟨_,rfl⟩
 have hNl:N<9223372036854775808:=by rw [hN];exact nbN_small lB r.at_ 4 (by decide) (by omega) 4 (Nat.le_refl _)
 have cn:∀ w1,Below w.heap.size w w1→Calls Try.prog 76 #[.pointer (some ⟨g,0,none⟩),.int .i64 4] w1 fun e w'=>e = .returned (.int .i64 (N:Int))∧Below w1.heap.size w1 w':=fun w1 b1=>by
  rw [hN];exact rnumber_any g L 4 B r lB (by decide) hL h2 (nbN_small lB r.at_ 4 (by decide) (by omega)) w1 (h.keep b1)
 have em:bits .and .i64 (N:Int) 1073741823=((N%1073741824:Nat):Int):=and_mask N 30 (by decide) hNl
 obtain ⟨x,hx⟩:∃ x:Int,x=(L:Int) - (r.at_:Int):=⟨_,rfl⟩
 simp only [←hx] at cl cl2
 have t1:¬x=0:=by omega
 have t2:¬x<4:=by omega
 rw [←hN] at h3
 obtain ⟨n,hn⟩:∃ n,n=N%1073741824:=⟨_,rfl⟩
 rw [←hn] at em h3
 obtain ⟨z,hz⟩:∃ z:Int,z=(n:Int):=⟨_,rfl⟩
 rw [←hz] at em
 have t3:z<16384:=by omega
 clear hz
 clear hn h3
 have Hh:=Hid.mk' h
 have gl:=h.lt
 have hy:=lB r.at_
 have t4:(0:Int)≤(r.at_:Int)∧(r.at_:Int)<(L:Int):=by omega
 clear h hx hN
 go_enter Try.func77,Try.ntmps77
 go_wp2_with (go_at_call 70;refine cl.mono ?_;clear cl;rintro e w1 ⟨rfl,b1⟩;have Hh1:=Hid.mk' (Hh.out.keep b1);obtain ⟨d2,z2'⟩:=Hh1.out.f2)
 have bd:Below w1.heap.size w1 w1.drew:=(Below.refl _ _).drew
 have bw:=below_next b1 bd
 have Hd:=Hid.mk' (Hh1.out.keep bd)
 obtain ⟨v,rr,hv,-⟩:=Hd.out
 rcases hv with ⟨xo,rfl,h0⟩ | ⟨bb,ob,cap,rfl,hbb,hc,hcell⟩
 · omega
 have f0:w1.drew.cell? ⟨g,0,none⟩=some (.slice (some ⟨bb,ob,none⟩) L cap):=rr.range 0 _ rfl
 have f1:w1.drew.cell? ⟨g,1,none⟩=some (.int .i64 (r.at_:Int)):=rr.range 1 _ rfl
 have f3:=hcell r.at_ hq
 obtain ⟨d3,z3⟩:=Hd.out.f2
 clear hcell rr
 obtain ⟨a,ha⟩:∃ a,a=r.at_:=⟨_,rfl⟩
 have HA:=Hid.mk' ha
 rw [←ha] at f1 f3 t4 hy ht
 obtain ⟨y,hy'⟩:∃ y,y=B a:=⟨_,rfl⟩
 rw [←hy'] at f3 hy ht
 clear hy' ha
 have e1:(y:Int) / 64=2:=by omega
 have e2:(y:Int) / 2 ^ 6=2:=by omega
 replace cl2:=cl2 _ bw
 go_region
 go_wp2_with (first
  | (go_at_call 70;refine cl2.mono ?_;clear cl2;rintro e w2 ⟨rfl,b2⟩;have Hh2:=Hid.mk' (Hd.out.keep b2);have bw2:=below_next bw b2;replace cn:=cn _ bw2)
  | (go_at_call 76;refine cn.mono ?_;clear cn;rintro e w3 ⟨rfl,b3⟩;have Hh3:=Hid.mk' (Hh2.out.keep b3);have bw3:=below_next bw2 b3;obtain ⟨d5,z5⟩:=Hh3.out.f2;obtain ⟨k1,y1⟩:=Hh3.out.f1;rw [←HA.out] at k1))
 go_ret
 exact ⟨rfl,Hh3.out.setE 21,(Out.of_below bw3 gl).trans (Out.setCell _ _ (by decide) (by decide))⟩
set_option maxRecDepth 20000 in
set_option maxHeartbeats 2000000 in
theorem rLenR_good1 (g L:Nat) (B:Nat→Nat) (lB:∀ j,B j<256) (r:Rd) (he:r.e=0) (hL:L<140737488355000) (hq:r.at_<L) (ht:B r.at_ / 64=0) (h2:r.at_+1≤L) (w:World) (h:RdR w g L B r):Calls Try.prog 77 #[.pointer (some ⟨g,0,none⟩)] w fun e w'=>e = .returned (.int .i64 ((nbN B r.at_ 1%64:Nat):Int))∧RdR w' g L B ⟨r.at_+1,0⟩∧Out g 1 2 w w':=by
 obtain ⟨c2,z2⟩:=h.f2
 rw [he] at c2
 have cl:=rLeft11_any g L B r hL w h
 have cl2:∀ w1,Below w.heap.size w w1→_:=fun w1 b1=>rLeft11_any g L B r hL w1 (h.keep b1)
 obtain ⟨N,hN⟩:∃ N,N=nbN B r.at_ 1:=⟨_,rfl⟩
 have hNl:N<9223372036854775808:=by rw [hN];exact nbN_small lB r.at_ 1 (by decide) (by omega) 1 (Nat.le_refl _)
 have cn:∀ w1,Below w.heap.size w w1→Calls Try.prog 76 #[.pointer (some ⟨g,0,none⟩),.int .i64 1] w1 fun e w'=>e = .returned (.int .i64 (N:Int))∧Below w1.heap.size w1 w':=fun w1 b1=>by
  rw [hN];exact rnumber_any g L 1 B r lB (by decide) hL h2 (nbN_small lB r.at_ 1 (by decide) (by omega)) w1 (h.keep b1)
 have em:bits .and .i64 (N:Int) 63=((N%64:Nat):Int):=and_mask N 6 (by decide) hNl
 obtain ⟨x,hx⟩:∃ x:Int,x=(L:Int) - (r.at_:Int):=⟨_,rfl⟩
 simp only [←hx] at cl cl2
 have t1:¬x=0:=by omega
 have t2:¬x<1:=by omega
 rw [←hN]
 obtain ⟨n,hn⟩:∃ n,n=N%64:=⟨_,rfl⟩
 rw [←hn] at em ⊢
 obtain ⟨q,hq'⟩:∃ q,q=r.at_+1:=⟨_,rfl⟩
 have hqL:q≤L:=by omega
 have e3:IntKind.i64.wrap ((r.at_:Int)+1)=(q:Int):=by simp only [IntKind.wrap_i64];omega
 have e4:(r.at_:Int)+1=(q:Int):=by omega
 rw [←hq']
 clear hn hq'
 have Hh:=Hid.mk' h
 have gl:=h.lt
 have hy:=lB r.at_
 have t4:(0:Int)≤(r.at_:Int)∧(r.at_:Int)<(L:Int):=by omega
 clear h hx hN
 go_enter Try.func77,Try.ntmps77
 go_wp2_with (go_at_call 70;refine cl.mono ?_;clear cl;rintro e w1 ⟨rfl,b1⟩;have Hh1:=Hid.mk' (Hh.out.keep b1);obtain ⟨d2,z2'⟩:=Hh1.out.f2)
 have bd:Below w1.heap.size w1 w1.drew:=(Below.refl _ _).drew
 have bw:=below_next b1 bd
 have Hd:=Hid.mk' (Hh1.out.keep bd)
 obtain ⟨v,rr,hv,-⟩:=Hd.out
 rcases hv with ⟨xo,rfl,h0⟩ | ⟨bb,ob,cap,rfl,hbb,hc,hcell⟩
 · omega
 have f0:w1.drew.cell? ⟨g,0,none⟩=some (.slice (some ⟨bb,ob,none⟩) L cap):=rr.range 0 _ rfl
 have f1:w1.drew.cell? ⟨g,1,none⟩=some (.int .i64 (r.at_:Int)):=rr.range 1 _ rfl
 have f3:=hcell r.at_ hq
 obtain ⟨d3,z3⟩:=Hd.out.f2
 clear hcell rr
 obtain ⟨a,ha⟩:∃ a,a=r.at_:=⟨_,rfl⟩
 have HA:=Hid.mk' ha
 rw [←ha] at f1 f3 t4 hy ht e3 e4
 obtain ⟨y,hy'⟩:∃ y,y=B a:=⟨_,rfl⟩
 rw [←hy'] at f3 hy ht
 clear hy' ha
 have e1:(y:Int) / 64=0:=by omega
 have e2:(y:Int) / 2 ^ 6=0:=by omega
 replace cl2:=cl2 _ bw
 go_region
 go_wp2_with (first
  | (go_at_call 70;refine cl2.mono ?_;clear cl2;rintro e w2 ⟨rfl,b2⟩;have Hh2:=Hid.mk' (Hd.out.keep b2);have bw2:=below_next bw b2;replace cn:=cn _ bw2)
  | (go_at_call 76;refine cn.mono ?_;clear cn;rintro e w3 ⟨rfl,b3⟩;have Hh3:=Hid.mk' (Hh2.out.keep b3);have bw3:=below_next bw2 b3;obtain ⟨d5,z5⟩:=Hh3.out.f2;obtain ⟨k1,y1⟩:=Hh3.out.f1;rw [←HA.out] at k1))
 go_ret
 have k:=Hh3.out.setAt q hqL
 rw [he] at k
 exact ⟨rfl,k,(Out.of_below bw3 gl).trans (Out.setCell _ _ (by decide) (by decide))⟩
set_option maxRecDepth 20000 in
set_option maxHeartbeats 2000000 in
theorem rLenR_good2 (g L:Nat) (B:Nat→Nat) (lB:∀ j,B j<256) (r:Rd) (he:r.e=0) (hL:L<140737488355000) (hq:r.at_<L) (ht:B r.at_ / 64=1) (h2:r.at_+2≤L) (h3:¬nbN B r.at_ 2%16384<64) (w:World) (h:RdR w g L B r):Calls Try.prog 77 #[.pointer (some ⟨g,0,none⟩)] w fun e w'=>e = .returned (.int .i64 ((nbN B r.at_ 2%16384:Nat):Int))∧RdR w' g L B ⟨r.at_+2,0⟩∧Out g 1 2 w w':=by
 obtain ⟨c2,z2⟩:=h.f2
 rw [he] at c2
 have cl:=rLeft11_any g L B r hL w h
 have cl2:∀ w1,Below w.heap.size w w1→_:=fun w1 b1=>rLeft11_any g L B r hL w1 (h.keep b1)
 obtain ⟨N,hN⟩:∃ N,N=nbN B r.at_ 2:=⟨_,rfl⟩
 have hNl:N<9223372036854775808:=by rw [hN];exact nbN_small lB r.at_ 2 (by decide) (by omega) 2 (Nat.le_refl _)
 have cn:∀ w1,Below w.heap.size w w1→Calls Try.prog 76 #[.pointer (some ⟨g,0,none⟩),.int .i64 2] w1 fun e w'=>e = .returned (.int .i64 (N:Int))∧Below w1.heap.size w1 w':=fun w1 b1=>by
  rw [hN];exact rnumber_any g L 2 B r lB (by decide) hL h2 (nbN_small lB r.at_ 2 (by decide) (by omega)) w1 (h.keep b1)
 have em:bits .and .i64 (N:Int) 16383=((N%16384:Nat):Int):=and_mask N 14 (by decide) hNl
 obtain ⟨x,hx⟩:∃ x:Int,x=(L:Int) - (r.at_:Int):=⟨_,rfl⟩
 simp only [←hx] at cl cl2
 have t1:¬x=0:=by omega
 have t2:¬x<2:=by omega
 rw [←hN] at h3 ⊢
 obtain ⟨n,hn⟩:∃ n,n=N%16384:=⟨_,rfl⟩
 rw [←hn] at em h3 ⊢
 obtain ⟨z,hz⟩:∃ z:Int,z=(n:Int):=⟨_,rfl⟩
 rw [←hz] at em ⊢
 have t3:¬z<64:=by omega
 clear hz
 obtain ⟨q,hq'⟩:∃ q,q=r.at_+2:=⟨_,rfl⟩
 have hqL:q≤L:=by omega
 have e3:IntKind.i64.wrap ((r.at_:Int)+2)=(q:Int):=by simp only [IntKind.wrap_i64];omega
 have e4:(r.at_:Int)+2=(q:Int):=by omega
 rw [←hq']
 clear hn hq' h3
 have Hh:=Hid.mk' h
 have gl:=h.lt
 have hy:=lB r.at_
 have t4:(0:Int)≤(r.at_:Int)∧(r.at_:Int)<(L:Int):=by omega
 clear h hx hN
 go_enter Try.func77,Try.ntmps77
 go_wp2_with (go_at_call 70;refine cl.mono ?_;clear cl;rintro e w1 ⟨rfl,b1⟩;have Hh1:=Hid.mk' (Hh.out.keep b1);obtain ⟨d2,z2'⟩:=Hh1.out.f2)
 have bd:Below w1.heap.size w1 w1.drew:=(Below.refl _ _).drew
 have bw:=below_next b1 bd
 have Hd:=Hid.mk' (Hh1.out.keep bd)
 obtain ⟨v,rr,hv,-⟩:=Hd.out
 rcases hv with ⟨xo,rfl,h0⟩ | ⟨bb,ob,cap,rfl,hbb,hc,hcell⟩
 · omega
 have f0:w1.drew.cell? ⟨g,0,none⟩=some (.slice (some ⟨bb,ob,none⟩) L cap):=rr.range 0 _ rfl
 have f1:w1.drew.cell? ⟨g,1,none⟩=some (.int .i64 (r.at_:Int)):=rr.range 1 _ rfl
 have f3:=hcell r.at_ hq
 obtain ⟨d3,z3⟩:=Hd.out.f2
 clear hcell rr
 obtain ⟨a,ha⟩:∃ a,a=r.at_:=⟨_,rfl⟩
 have HA:=Hid.mk' ha
 rw [←ha] at f1 f3 t4 hy ht e3 e4
 obtain ⟨y,hy'⟩:∃ y,y=B a:=⟨_,rfl⟩
 rw [←hy'] at f3 hy ht
 clear hy' ha
 have e1:(y:Int) / 64=1:=by omega
 have e2:(y:Int) / 2 ^ 6=1:=by omega
 replace cl2:=cl2 _ bw
 go_region
 go_wp2_with (first
  | (go_at_call 70;refine cl2.mono ?_;clear cl2;rintro e w2 ⟨rfl,b2⟩;have Hh2:=Hid.mk' (Hd.out.keep b2);have bw2:=below_next bw b2;replace cn:=cn _ bw2)
  | (go_at_call 76;refine cn.mono ?_;clear cn;rintro e w3 ⟨rfl,b3⟩;have Hh3:=Hid.mk' (Hh2.out.keep b3);have bw3:=below_next bw2 b3;obtain ⟨d5,z5⟩:=Hh3.out.f2;obtain ⟨k1,y1⟩:=Hh3.out.f1;rw [←HA.out] at k1))
 go_ret
 have k:=Hh3.out.setAt q hqL
 rw [he] at k
 exact ⟨rfl,k,(Out.of_below bw3 gl).trans (Out.setCell _ _ (by decide) (by decide))⟩
set_option maxRecDepth 20000 in
set_option maxHeartbeats 2000000 in
theorem rLenR_good4 (g L:Nat) (B:Nat→Nat) (lB:∀ j,B j<256) (r:Rd) (he:r.e=0) (hL:L<140737488355000) (hq:r.at_<L) (ht:B r.at_ / 64=2) (h2:r.at_+4≤L) (h3:¬nbN B r.at_ 4%1073741824<16384) (w:World) (h:RdR w g L B r):Calls Try.prog 77 #[.pointer (some ⟨g,0,none⟩)] w fun e w'=>e = .returned (.int .i64 ((nbN B r.at_ 4%1073741824:Nat):Int))∧RdR w' g L B ⟨r.at_+4,0⟩∧Out g 1 2 w w':=by
 obtain ⟨c2,z2⟩:=h.f2
 rw [he] at c2
 have cl:=rLeft11_any g L B r hL w h
 have cl2:∀ w1,Below w.heap.size w w1→_:=fun w1 b1=>rLeft11_any g L B r hL w1 (h.keep b1)
 obtain ⟨N,hN⟩:∃ N,N=nbN B r.at_ 4:=⟨_,rfl⟩
 have hNl:N<9223372036854775808:=by rw [hN];exact nbN_small lB r.at_ 4 (by decide) (by omega) 4 (Nat.le_refl _)
 have cn:∀ w1,Below w.heap.size w w1→Calls Try.prog 76 #[.pointer (some ⟨g,0,none⟩),.int .i64 4] w1 fun e w'=>e = .returned (.int .i64 (N:Int))∧Below w1.heap.size w1 w':=fun w1 b1=>by
  rw [hN];exact rnumber_any g L 4 B r lB (by decide) hL h2 (nbN_small lB r.at_ 4 (by decide) (by omega)) w1 (h.keep b1)
 have em:bits .and .i64 (N:Int) 1073741823=((N%1073741824:Nat):Int):=and_mask N 30 (by decide) hNl
 obtain ⟨x,hx⟩:∃ x:Int,x=(L:Int) - (r.at_:Int):=⟨_,rfl⟩
 simp only [←hx] at cl cl2
 have t1:¬x=0:=by omega
 have t2:¬x<4:=by omega
 rw [←hN] at h3 ⊢
 obtain ⟨n,hn⟩:∃ n,n=N%1073741824:=⟨_,rfl⟩
 rw [←hn] at em h3 ⊢
 obtain ⟨z,hz⟩:∃ z:Int,z=(n:Int):=⟨_,rfl⟩
 rw [←hz] at em ⊢
 have t3:¬z<16384:=by omega
 clear hz
 obtain ⟨q,hq'⟩:∃ q,q=r.at_+4:=⟨_,rfl⟩
 have hqL:q≤L:=by omega
 have e3:IntKind.i64.wrap ((r.at_:Int)+4)=(q:Int):=by simp only [IntKind.wrap_i64];omega
 have e4:(r.at_:Int)+4=(q:Int):=by omega
 rw [←hq']
 clear hn hq' h3
 have Hh:=Hid.mk' h
 have gl:=h.lt
 have hy:=lB r.at_
 have t4:(0:Int)≤(r.at_:Int)∧(r.at_:Int)<(L:Int):=by omega
 clear h hx hN
 go_enter Try.func77,Try.ntmps77
 go_wp2_with (go_at_call 70;refine cl.mono ?_;clear cl;rintro e w1 ⟨rfl,b1⟩;have Hh1:=Hid.mk' (Hh.out.keep b1);obtain ⟨d2,z2'⟩:=Hh1.out.f2)
 have bd:Below w1.heap.size w1 w1.drew:=(Below.refl _ _).drew
 have bw:=below_next b1 bd
 have Hd:=Hid.mk' (Hh1.out.keep bd)
 obtain ⟨v,rr,hv,-⟩:=Hd.out
 rcases hv with ⟨xo,rfl,h0⟩ | ⟨bb,ob,cap,rfl,hbb,hc,hcell⟩
 · omega
 have f0:w1.drew.cell? ⟨g,0,none⟩=some (.slice (some ⟨bb,ob,none⟩) L cap):=rr.range 0 _ rfl
 have f1:w1.drew.cell? ⟨g,1,none⟩=some (.int .i64 (r.at_:Int)):=rr.range 1 _ rfl
 have f3:=hcell r.at_ hq
 obtain ⟨d3,z3⟩:=Hd.out.f2
 clear hcell rr
 obtain ⟨a,ha⟩:∃ a,a=r.at_:=⟨_,rfl⟩
 have HA:=Hid.mk' ha
 rw [←ha] at f1 f3 t4 hy ht e3 e4
 obtain ⟨y,hy'⟩:∃ y,y=B a:=⟨_,rfl⟩
 rw [←hy'] at f3 hy ht
 clear hy' ha
 have e1:(y:Int) / 64=2:=by omega
 have e2:(y:Int) / 2 ^ 6=2:=by omega
 replace cl2:=cl2 _ bw
 go_region
 go_wp2_with (first
  | (go_at_call 70;refine cl2.mono ?_;clear cl2;rintro e w2 ⟨rfl,b2⟩;have Hh2:=Hid.mk' (Hd.out.keep b2);have bw2:=below_next bw b2;replace cn:=cn _ bw2)
  | (go_at_call 76;refine cn.mono ?_;clear cn;rintro e w3 ⟨rfl,b3⟩;have Hh3:=Hid.mk' (Hh2.out.keep b3);have bw3:=below_next bw2 b3;obtain ⟨d5,z5⟩:=Hh3.out.f2;obtain ⟨k1,y1⟩:=Hh3.out.f1;rw [←HA.out] at k1))
 go_ret
 have k:=Hh3.out.setAt q hqL
 rw [he] at k
 exact ⟨rfl,k,(Out.of_below bw3 gl).trans (Out.setCell _ _ (by decide) (by decide))⟩
end Go.Proofs.Ytgdcmibdjiaofaa
