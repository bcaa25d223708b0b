/- What the proof stands on: V6F, V6K, V6L, D1CI, D1KN, D1BR, V6G. -/
import Derived.Test.YtibmlmmoifgliaaGreatDoorD1CBM
import Derived.Test.YtibmlmmoifgliaaGreatDoorHRefSumM
import Derived.Test.YtibmlmmoifgliaaGreatDoorQAppM
import Derived.Test.YtibmlmmoifgliaaGreatDoorV6CM
import Derived.Test.YtibmlmmoifgliaaGreatDoorV6EM
import Derived.Lib.SlBytesConst
import Derived.ScopeJumps
import Derived.WalkMore
namespace Go.Proofs.YtibmlmmoifgliaaGreatDoor
open Go.RowKit
theorem run_append_zeros_nilV (w:World) (ty:TypeId) (m:Nat) (h0:0<m) (hm:m≤100000000) :
 (Builtin.append_ #[22,3] ty #[.slice none 0 0,.int .i64 m]).run Tryz.prog w =
  .ok (.slice (some ⟨w.heap.size,0,none⟩) m (grownCap w m 0 5)) (w.drew.alloc (.cells ((ints .u8 m (fun _=>0)).toArray ++ Builtin.zeroCells #[.int .u8 0] (grownCap w m 0 5 - m)) 5)):=by
 obtain ⟨i,hi,hz,hz1,hz2⟩:=info_parts Tryz.info5
 have h63':¬ (9223372036854775807<(m:Int)):=by omega
 have hw:IntKind.i64.wrap (m:Int)=m:=by simp only [IntKind.wrap_i64];omega
 have hl0:¬((m:Int)<0):=by omega
 have h48:¬ (281474976710656<(m:Int)):=by omega
 have hm0:¬(m=0):=by omega
 have hai:∀ W,Sem.run Tryz.prog (asInt (.int .i64 (m:Int))) W = .ok (m:Int) W:=fun _=>rfl
 have hc:(Value.int IntKind.u8 0).cells=#[.int .u8 0]:=rfl
 have hu:=run_underlying (P:=Tryz.prog) Tryz.underlying22
 have hu2:=run_underlying (P:=Tryz.prog) Tryz.underlying3
 have hns:¬ (281474976710656<Builtin.nextslicecap m 0):=by rw [nextslicecap_zero h0];omega
 simp [Builtin.append_,hu,hu2,sizeOf,typeInfo,zeroValue,hi,hz,hai,hw,hl0,h48,hz1,hz2,h63',Question.forced,run_firstCells_none,newRow,grownCap,hc,hm0,hns]
 rw [zeroCells_u8 m]
theorem append_zeros0V (w:World) (ty:TypeId) (m:Nat) (h0:0<m) (hm:m≤100000000) :
 ∃ g cap w',(Builtin.append_ #[22,3] ty #[.slice none 0 0,.int .i64 m]).run Tryz.prog w = .ok (.slice (some ⟨g,0,none⟩) m cap) w'∧m≤cap∧Own w.heap.size w' (.slice (some ⟨g,0,none⟩) 0 cap) 0 (fun _=>0)∧Below w.heap.size w w':=by
 have hge:=grownCap_ge w m 0 5
 have hcm:=grownCap_le_maxLen w m 0 5 (by unfold maxLen;omega)
 refine ⟨_,_,_,run_append_zeros_nilV w ty m h0 hm,hge,⟨rfl,.inr ⟨w.heap.size,_,_,rfl,Nat.le_refl _,heap_alloc_new w.drew _,Nat.zero_le _,hcm,?_,rfl⟩⟩,((Below.refl _ _).drew).alloc (Nat.le_refl _) _⟩
 simp only [Array.size_append,List.size_toArray,size_zeroCells,ints_len]
 simp
 omega
theorem wpList_append_zeros0V {w:World} {ops:Array Oper} {rest:List Oper} {o:Oper} {a:Act} {Q:Exit→Act→World→Prop} (hgd:o.guard=none) (s x:Operand)
 (ho:o.op = .call { callee := .builtin .append,args:=#[s,x],argTypes:=#[22,3] }) (hs:a.eval s = .slice none 0 0) (m:Nat) (hx:a.eval x = .int .i64 m) (h0:0<m) (hm:m≤100000000)
 (h:∀ g cap w',m≤cap→Own w.heap.size w' (.slice (some ⟨g,0,none⟩) 0 cap) 0 (fun _=>0)→Below w.heap.size w w'→wpList Tryz.prog ops Q rest (a.put o.dst (.slice (some ⟨g,0,none⟩) m cap)) w'):wpList Tryz.prog ops Q (o :: rest) a w:=by
 refine wpList_plain hgd fun K hK => ?_
 obtain ⟨g,cap,w',h1,h2,h3,h4⟩:=append_zeros0V w o.type m h0 hm
 unfold Oper.wp execOp
 simp only [ho,resolve,invoke,builtin,Sem.run_bind,Sem.run_pure,Result.andThen_ok,List.map_toArray,List.map_cons,List.map_nil,hs,hx,h1]
 exact hK _ _ (h g cap w' h2 h3 h4)
set_option maxRecDepth 20000 in
set_option maxHeartbeats 4000000 in
theorem grow_anyV (m:Nat) (h0:0<m) (hm:m≤100000000) (w:World) :
 Calls Tryz.prog 65 #[.slice none 0 0,.int .i64 m] w fun e w'=>∃ g cap,e = .returned (.slice (some ⟨g,0,none⟩) 0 cap)∧Own w.heap.size w' (.slice (some ⟨g,0,none⟩) 0 cap) 0 (fun _=>0)∧Below w.heap.size w w':=by
 have e1:¬((m:Int)<0):=by omega
 have e2:(0:Int)<(m:Int):=by omega
 have e3:IntKind.i64.wrap ((m:Int) - 0)=(m:Int):=by simp only [IntKind.wrap_i64];omega
 have e4:IntKind.i64.wrap (m:Int)=(m:Int):=by simp only [IntKind.wrap_i64];omega
 go_enter Tryz.func65,Tryz.ntmps65
 go_wp2_with (at_builtin;refine wpList_append_zeros0V rfl (.tmp 20) (.tmp 21) rfl rfl m rfl h0 hm ?_;intro g cap w1 hcap own hb)
 go_ret
 exact ⟨g,cap,rfl,own,hb⟩
set_option maxRecDepth 20000 in
set_option maxHeartbeats 4000000 in
theorem grow0V (m:Nat) (hm:m≤100000000) (w:World) :
 Calls Tryz.prog 65 #[.slice none 0 0,.int .i64 m] w fun e w'=>∃ x cap,e = .returned (.slice x 0 cap)∧Own w.heap.size w' (.slice x 0 cap) 0 (fun _=>0)∧Below w.heap.size w w':=by
 by_cases h0:0<m
 · exact (grow_anyV m h0 hm w).mono fun _ _ ⟨g,c,h1,h2,h3⟩=>⟨_,_,h1,h2,h3⟩
 · obtain rfl:m=0:=by omega
   go_enter Tryz.func65,Tryz.ntmps65
   go_wp2
   go_ret
   exact ⟨none,0,rfl,Own.nil _ _ _,Below.refl _ _⟩
set_option maxRecDepth 20000 in
set_option maxHeartbeats 8000000 in
theorem concat_partsV (gp cnt m:Nat) (t:Nat→Nat) (w:World) (hP:Parts w gp cnt m t) (hcnt:cnt≤1000) (hsum:m≤100000000) :
 Calls Tryz.prog 34 #[.slice (some ⟨gp,0,none⟩) cnt cnt] w fun e w'=>∃ s,e = .returned s∧Own w.heap.size w' s m t∧Below w.heap.size w w':=by
 obtain ⟨pvs,L,p0,p1,p2⟩:=hP
 have P2:=Hid.mk' p2
 clear p2
 have hg:=grow0V m hsum w
 go_enter Tryz.func34,Tryz.ntmps34
 go_wp2
 go_loopw [3,11] (fun s i wr=>∃ q T:Nat,q≤cnt∧i = .int .i64 q∧Hid (T=L q)∧s = .int .i64 T∧w=wr) (fun _ i _=>cnt - (intOf i).toNat)
 case atStart=>exact ⟨0,0,Nat.zero_le _,rfl,Hid.mk' p0.symm,rfl,rfl⟩
 case round =>
  obtain ⟨q,T,hq,rfl,HT,rfl,rfl⟩:=hrel
  by_cases hlt:q<cnt
  · obtain ⟨c1,c2,c3,c4⟩:=P2.out q hlt
    obtain ⟨xp,cp,hpv,hxn,hncp,hsrc⟩:=c4.src
    obtain ⟨n,hn⟩:∃ n,n=L (q+1) - L q:=⟨_,rfl⟩
    have hTn:T+n=L (q+1):=by have:=HT.out;omega
    have hTm:T+n≤100000000:=by omega
    have r0:w.cell? ⟨gp,q,none⟩=some (.slice xp n cp):=by rw [c1,hpv,hn]
    have hqi:(0:Int)≤(q:Int)∧(q:Int)<cnt:=by omega
    have hd:decide ((q:Int)<(cnt:Int))=true:=decide_eq_true (by omega)
    have ew:IntKind.i64.wrap ((T:Int)+(n:Int))=(T:Int)+n:=by simp only [IntKind.wrap_i64];omega
    have en:¬((T:Int)+(n:Int)<0):=by omega
    have HN:Hid (T+n=L (q+1)):=hTn
    clear hn hTn c1 c2 c3 c4 hpv hsrc hg p0 p1
    go_wp2
    go_roundw
    case rel=>exact ⟨q+1,T+n,by omega,by go_num,Hid.mk' HN.out,by simp,by first | rfl | trivial⟩
    case measure=>simp [intOf];omega
  · have hqe:q=cnt:=by omega
    subst hqe
    have hTm:T=m:=by rw [HT.out,p1]
    subst hTm
    go_wp2_with (go_at_call 65;refine hg.mono ?_;clear hg;rintro e w1 ⟨x1,cap1,rfl,own1,hb1⟩)
    have hd0:decide ((q:Int)<(q:Int))=false:=decide_eq_false (by omega)
    try rw [hd0]
    clear hd0 hlt HT
    go_loopw [6,27] (fun ns i wr=>∃ r A:Nat,r≤q∧i = .int .i64 r∧Hid (A=L r)∧Own w.heap.size wr ns A t∧Below w.heap.size w wr) (fun _ i _=>q - (intOf i).toNat)
    case atStart=>exact ⟨0,0,Nat.zero_le _,rfl,Hid.mk' p0.symm,own1.congr (fun j hj=>absurd hj (Nat.not_lt_zero j)),hb1⟩
    case round =>
     clear own1 hb1
     obtain ⟨r,A,hr,rfl,HA,own,hbw⟩:=hrel
     by_cases hlt:r<q
     · obtain ⟨c1,c2,c3,c4⟩:=P2.out r hlt
       obtain ⟨xp,cp,hpv,hxn,hncp,hsrc⟩:=c4.src
       obtain ⟨n,hn⟩:∃ n,n=L (r+1) - L r:=⟨_,rfl⟩
       have hTn:A+n=L (r+1):=by have:=HA.out;omega
       have hTm:A+n≤100000000:=by omega
       have r0:wr.cell? ⟨gp,r,none⟩=some (.slice xp n cp):=by rw [hbw.cell (p:=⟨gp,r,none⟩) (block_lt_of_cell c1),c1,hpv,hn]
       have hcg:∀ z,z<A+n→cat A t (fun j=>t (L r+j)) z=t z:=fun z hz=>by
        have:=HA.out
        unfold cat
        by_cases e:z<A
        · rw [if_pos e]
        · rw [if_neg e]
          show t (L r+(z - A))=t z
          rw [show L r+(z - A)=z by omega]
       have src:=hsrc wr hbw
       rw [←hn] at src
       obtain ⟨Y,hY⟩:∃ Y:Nat→Nat,Y=fun j=>t (L r+j):=⟨_,rfl⟩
       rw [←hY] at src hcg
       have hqi:(0:Int)≤(r:Int)∧(r:Int)<q:=by omega
       have hd:decide ((r:Int)<(q:Int))=true:=decide_eq_true (by omega)
       have hsz:=hbw.size
       have HN:Hid (A+n=L (r+1)):=hTn
       clear hn hTn c1 c2 c3 c4 hpv hsrc p0 p1 hY
       go_wp2_with (at_builtin;refine wpList_append_bytes rfl (.tmp 31) (.tmp 32) rfl w.heap.size u6 A t rfl own xp n cp Y rfl src hxn (by omega) hsz ?_;intro v6 w6 own6 grow6;(have hb6:Below w.heap.size w w6:=Own.grown hbw grow6 own (Nat.le_refl _) hsz))
       go_roundw
       case rel=>exact ⟨r+1,A+n,by omega,by go_num,Hid.mk' HN.out,own6.congr hcg,hb6⟩
       case measure=>simp [intOf];omega
     · have hqe:r=q:=by omega
       subst hqe
       have hA:=HA.out
       rw [p1] at hA
       go_wp2
       go_ret
       exact ⟨_,rfl,by rw [←hA];exact own,hbw⟩
def smN (n:Nat) (b:Nat→Nat):Nat→Nat:=outB 32 (specS rn cubeK squareK n b)
theorem smN_lt (n:Nat) (b:Nat→Nat) (j:Nat):smN n b j<256:=Nat.mod_lt _ (by decide)
theorem cSm_any (v:Value) (n:Nat) (b:Nat→Nat) (lb:∀ j,b j<256) (hn:n<140737488355000) (w:World) (hT:TabAt w) (hv:BytesIn w v n b) :
 Calls Tryz.prog 58 #[v] w fun e w'=>∃ x c,e = .returned (.slice x 32 c)∧BytesIn w' (.slice x 32 c) 32 (smN n b)∧Below w.heap.size w w':=by
 have h:=Sum256_any cubeK squareK v n b lb w hT.h hv (by omega)
 rw [hashS_spec cubeK squareK _ _ (by decide)] at h
 exact h.mono fun _ _ ⟨g,h1,_,h3,h4⟩=>⟨_,_,h1,row32 h3,h4⟩
theorem confirmed_any (u v:Value) (n m:Nat) (a b:Nat→Nat) (la:∀ j,a j<256) (lb:∀ j,b j<256) (hs:n+m≤100000000) (w:World) (hT:TabAt w) (hu:BytesIn w u n a) (hv:BytesIn w v m b) :
 Calls Tryz.prog 28 #[u,v] w fun e w'=>∃ x c,e = .returned (.slice x 32 c)∧BytesIn w' (.slice x 32 c) 32 (smN (n+m) (cat n a b))∧Below w.heap.size w w':=by
 have hc:=concat_partsV w.heap.size 2 (n+m) (cat n a b) _ (parts_two w u v n m a b 22 hu hv) (by decide) hs
 rw [World.size_alloc] at hc
 have b1:Below w.heap.size w (w.alloc (.cells #[u,v] 22)):=(Below.refl _ _).alloc (Nat.le_refl _) _
 have hsm:=fun (W:World) (x:Value) (hb:Below w.heap.size w W) (hx:BytesIn W x (n+m) (cat n a b))=>cSm_any x (n+m) (cat n a b) (cat_lt la lb) (by omega) W (hT.still hb) hx
 obtain ⟨F,hF⟩:∃ F,F=cat n a b:=⟨_,rfl⟩
 obtain ⟨L,hL⟩:∃ L,L=n+m:=⟨_,rfl⟩
 obtain ⟨E,hE⟩:∃ E,E=smN L F:=⟨_,rfl⟩
 rw [←hF,←hL] at hc hsm ⊢
 rw [←hE] at hsm ⊢
 obtain ⟨x0,c0,rfl,-⟩:=hu.src
 obtain ⟨x1,c1,rfl,-⟩:=hv.src
 have B1:=Hid.mk' b1
 clear hF hL hE hT hu hv hs b1
 go_enter Tryz.func28,Tryz.ntmps28
 go_wp2_with (first
  | (go_at_call 34;refine hc.mono ?_;clear hc;rintro e w2 ⟨s2,rfl,o2,hb2⟩;(obtain ⟨x2,c2,hs2⟩:=o2.slice);subst hs2;have b2:=B1.out.trans (hb2.mono (Nat.le_succ _));have B2:=o2.bytesIn;clear o2)
  | (go_at_call 58;refine (hsm w2 _ b2 B2).mono ?_;clear hsm;rintro e w3 ⟨x3,c3,rfl,B3,hb3⟩))
 go_ret
 exact ⟨_,_,rfl,B3,below_next b2 hb3⟩
theorem interim_long (u v:Value) (m:Nat) (b:Nat→Nat) (hm:255<m) (w:World) (hv:BytesIn w v m b) :
 Calls Tryz.prog 30 #[u,v] w fun e w'=>e = .returned (.slice none 0 0)∧w'=w:=by
 obtain ⟨x1,c1,rfl,-⟩:=hv.src
 have h1:(255:Int)<(m:Int):=by omega
 clear hv hm
 go_enter Tryz.func30,Tryz.ntmps30
 go_wp2
 go_ret
 exact ⟨rfl,rfl⟩
theorem interim_good (u v:Value) (n m:Nat) (a b:Nat→Nat) (la:∀ j,a j<256) (lb:∀ j,b j<256) (hn:n≤99000000) (hm:m≤255) (w:World) (hT:TabAt w) (hu:BytesIn w u n a) (hv:BytesIn w v m b) :
 Calls Tryz.prog 30 #[u,v] w fun e w'=>∃ x c,e = .returned (.slice x 32 c)∧BytesIn w' (.slice x 32 c) 32 (smN (n+vcL m) (cat n a (vcB m b)))∧Below w.heap.size w w':=by
 obtain ⟨x1,c1,rfl,-⟩:=hv.src
 have r1:=RW.fresh w [.slice x1 m c1] 22
 have b1:Below w.heap.size w (w.alloc (.cells #[.slice x1 m c1] 22)):=(Below.refl _ _).alloc (Nat.le_refl _) _
 have hv1:=vec1_any w.heap.size (.slice x1 m c1) m b (by omega) lb _ r1 (hv.keep b1)
 have hl:=lnS_le4 m
 have hle:n+vcL m≤100000000:=by unfold vcL;omega
 have hc:=fun (W:World) (y:Value) (hb:Below w.heap.size w W) (hy:BytesIn W y (vcL m) (vcB m b))=>concat_partsV W.heap.size 2 (n+vcL m) (cat n a (vcB m b)) _ (parts_two W u y n (vcL m) a (vcB m b) 22 (hu.keep hb) hy) (by decide) hle
 have hsm:=fun (W:World) (x:Value) (hb:Below w.heap.size w W) (hx:BytesIn W x (n+vcL m) (cat n a (vcB m b)))=>cSm_any x (n+vcL m) (cat n a (vcB m b)) (cat_lt la (vcB_ltV lb)) (by omega) W (hT.still hb) hx
 have h1:¬(255:Int)<(m:Int):=by omega
 obtain ⟨V,hV⟩:∃ V,V=vcB m b:=⟨_,rfl⟩
 obtain ⟨K,hK⟩:∃ K,K=vcL m:=⟨_,rfl⟩
 obtain ⟨F,hF⟩:∃ F,F=cat n a V:=⟨_,rfl⟩
 obtain ⟨L,hL⟩:∃ L,L=n+K:=⟨_,rfl⟩
 obtain ⟨E,hE⟩:∃ E,E=smN L F:=⟨_,rfl⟩
 rw [←hV,←hK] at hc hsm ⊢
 rw [←hV,←hK] at hv1
 rw [←hF,←hL] at hc hsm ⊢
 rw [←hE] at hsm ⊢
 obtain ⟨x0,c0,rfl,-⟩:=hu.src
 have B1:=Hid.mk' b1
 clear hF hL hE hT hu hv b1 r1 hl hle hV hK hm hn
 go_enter Tryz.func30,Tryz.ntmps30
 go_wp2_with (first
  | (go_at_call 36;refine hv1.mono ?_;clear hv1;rintro e w2 ⟨s2,rfl,o2,hb2⟩;(obtain ⟨x2,c2,hs2⟩:=o2.slice);subst hs2;have b2:=below_next B1.out hb2;have D2:=o2.bytesIn;have hc2:=hc w2 _ b2 D2;(rw [World.size_alloc] at hc2);have b3:Below w.heap.size w (w2.alloc (.cells #[.slice x0 n c0,.slice x2 K c2] 22)):=b2.alloc b2.size _;have B3:=Hid.mk' b3;have l3:=b2.size;clear o2 hc b3)
  | (go_at_call 34;refine hc2.mono ?_;clear hc2;rintro e w4 ⟨s4,rfl,o4,hb4⟩;(obtain ⟨x4,c4,hs4⟩:=o4.slice);subst hs4;have b4:=B3.out.trans (hb4.mono (Nat.le_succ_of_le l3));have B4:=o4.bytesIn;clear o4)
  | (go_at_call 58;refine (hsm w4 _ b4 B4).mono ?_;clear hsm;rintro e w5 ⟨x5,c5,rfl,B5,hb5⟩))
 go_ret
 exact ⟨_,_,rfl,B5,below_next b4 hb5⟩
theorem tagS_any (cs:List Value) (N:Nat→Nat) (B:Nat→Nat→Nat) (lB:∀ i j,B i j<256) (v:Value) (m:Nat) (b:Nat→Nat) (lb:∀ j,b j<256) (hN:N 4<140737488355000) (hm:m<140737488355000) (w:World) (hT:TabAt w) (hs:TxRow w cs 11 N B) (hv:BytesIn w v m b) :
 Calls Tryz.prog 26 #[.agg cs.toArray,v] w fun e w'=>∃ x c,e = .returned (.slice x 32 c)∧BytesIn w' (.slice x 32 c) 32 (xtN (N 4) (B 4) m b)∧Below w.heap.size w w':=by
 obtain ⟨hl,hcs⟩:=hs
 obtain ⟨v0,v1,v2,v3,v4,v5,v6,v7,v8,v9,v10,rfl⟩:∃ v0 v1 v2 v3 v4 v5 v6 v7 v8 v9 v10,cs=[v0,v1,v2,v3,v4,v5,v6,v7,v8,v9,v10]:=by
  match cs,hl with
  | [v0,v1,v2,v3,v4,v5,v6,v7,v8,v9,v10],_=>exact ⟨_,_,_,_,_,_,_,_,_,_,_,rfl⟩
 have h4:=hcs 4 v4 rfl
 have b1:Below w.heap.size w (w.alloc (.cells #[v0,v1,v2,v3,v4,v5,v6,v7,v8,v9,v10] 45)):=(Below.refl _ _).alloc (Nat.le_refl _) _
 have hh:=cHm_any v4 v (N 4) m (B 4) b (lB 4) lb hN hm _ (hT.still b1) (h4.keep b1) (hv.keep b1)
 obtain ⟨E,hE⟩:∃ E,E=xtN (N 4) (B 4) m b:=⟨_,rfl⟩
 rw [←hE] at hh ⊢
 have B1:=Hid.mk' b1
 have h1:=hv.isSl
 clear hE b1 hcs hl h4 hv
 obtain ⟨xv,nv,cv,rfl⟩:=h1
 go_enter Tryz.func26,Tryz.ntmps26
 go_wp2_with (go_at_call 62;refine hh.mono ?_;clear hh;rintro e w3 ⟨x3,c3,rfl,B3,hb3⟩)
 go_ret
 exact ⟨_,_,rfl,B3,below_next B1.out hb3⟩
def lKyV:List Nat:=[107,101,121]
def lNoV:List Nat:=[110,111,110,99,101]
theorem welcome_any (u v:Value) (n m:Nat) (a b:Nat→Nat) (la:∀ j,a j<256) (lb:∀ j,b j<256) (hn:n<140737488355000) (hm:m<140737488355000) (w:World) (hT:TabAt w) (hu:BytesIn w u n a) (hv:BytesIn w v m b) :
 Calls Tryz.prog 20 #[u,v] w fun e w'=>∃ x c y d,e = .returned (.tuple #[.slice x 16 c,.slice y 12 d])∧BytesIn w' (.slice x 16 c) 16 (exN 32 (exN 32 (xtN n a m b) lWel 0 lZ 32) lKyV 0 lZ 16)∧BytesIn w' (.slice y 12 d) 12 (exN 32 (exN 32 (xtN n a m b) lWel 0 lZ 32) lNoV 0 lZ 12)∧Below w.heap.size w w':=by
 have h1:=cXt_any u v n m a b la lb hn hm w hT hu hv
 have h2:=fun (W:World) (x:Value) (hb:Below w.heap.size w W) (hx:BytesIn W x 32 (xtN n a m b))=>welcomeOf_any x 32 (xtN n a m b) (xtN_lt _ _ _ _) (by decide) W (hT.still hb) hx
 obtain ⟨X,hX⟩:∃ X,X=xtN n a m b:=⟨_,rfl⟩
 rw [←hX] at h1 h2 ⊢
 obtain ⟨Z,hZ⟩:∃ Z,Z=exN 32 X lWel 0 lZ 32:=⟨_,rfl⟩
 have lZZ:∀ j,Z j<256:=by rw [hZ];exact exN_lt _ _ _ _ _ _
 rw [←hZ] at h2 ⊢
 have h3:=fun (W:World) (x:Value) (hb:Below w.heap.size w W) (hx:BytesIn W x 32 Z)=>cExpand_good lKyV (by decide) (by decide) x (.slice none 0 0) 32 0 Z lZ lZZ (fun _=>by show 0<256;decide) (by decide) (by decide) 16 (by decide) W (hT.still hb).h hx (nil_bytes W lZ)
 have h4:=fun (W:World) (x:Value) (hb:Below w.heap.size w W) (hx:BytesIn W x 32 Z)=>cExpand_good lNoV (by decide) (by decide) x (.slice none 0 0) 32 0 Z lZ lZZ (fun _=>by show 0<256;decide) (by decide) (by decide) 12 (by decide) W (hT.still hb).h hx (nil_bytes W lZ)
 replace h3:∀ (W:World) (x:Value),Below w.heap.size w W→BytesIn W x 32 Z→Calls Tryz.prog 57 #[x,.string { data:=#[107,101,121] },.slice none 0 0,.int .i64 16] W _:=h3
 replace h4:∀ (W:World) (x:Value),Below w.heap.size w W→BytesIn W x 32 Z→Calls Tryz.prog 57 #[x,.string { data:=#[110,111,110,99,101] },.slice none 0 0,.int .i64 12] W _:=h4
 obtain ⟨K,hK⟩:∃ K,K=exN 32 Z lKyV 0 lZ 16:=⟨_,rfl⟩
 obtain ⟨M,hM⟩:∃ M,M=exN 32 Z lNoV 0 lZ 12:=⟨_,rfl⟩
 rw [←hK] at h3 ⊢
 rw [←hM] at h4 ⊢
 obtain ⟨x0,c0,rfl,-⟩:=hu.src
 obtain ⟨x1,c1,rfl,-⟩:=hv.src
 clear hX hZ hK hM hT hu hv lZZ
 go_enter Tryz.func20,Tryz.ntmps20
 go_wp2_with (first
  | (go_at_call 49;refine h1.mono ?_;clear h1;rintro e w2 ⟨x2,c2,rfl,X2,b2⟩)
  | (go_at_call 52;refine (h2 w2 _ b2 X2).mono ?_;clear h2;rintro e w3 ⟨x3,c3,rfl,Z3,hb3⟩;have b3:=below_next b2 hb3)
  | (go_at_call 57;refine (h3 w3 _ b3 Z3).mono ?_;clear h3;rintro e w4 ⟨s4,rfl,K4,hb4⟩;(obtain ⟨x4,c4,hs4,-⟩:=K4.src);subst hs4;have b4:=below_next b3 hb4;(replace Z3:=Z3.keep hb4))
  | (go_at_call 57;refine (h4 w4 _ b4 Z3).mono ?_;clear h4;rintro e w5 ⟨s5,rfl,M5,hb5⟩;(obtain ⟨x5,c5,hs5,-⟩:=M5.src);subst hs5;(replace K4:=K4.keep hb5)))
 go_ret2
 exact ⟨_,_,_,_,rfl,K4,M5,below_next b4 hb5⟩
def lJoi:List Nat:=[106,111,105,110,101,114]
set_option maxRecDepth 20000 in
theorem joiner_good (u v:Value) (n m:Nat) (a b:Nat→Nat) (la:∀ j,a j<256) (lb:∀ j,b j<256) (hn:n<140737488355000) (hm:m<140737488355000) (cs:List Value) (d:CxD) (hB:cxB d) (ok:cxOk d=true) (w:World) (hT:TabAt w) (hu:BytesIn w u n a) (hv:BytesIn w v m b) (hc:CxIn w cs d) :
 Calls Tryz.prog 16 #[u,v,.agg cs.toArray] w fun e w'=>∃ x c,e = .returned (.tuple #[.slice x 32 c,.int .i64 0])∧BytesIn w' (.slice x 32 c) 32 (exN 32 (xtN n a m b) lJoi (cxL d) (cxT d) 32)∧Below w.heap.size w w':=by
 have h1:=fun (W:World) (hb:Below w.heap.size w W)=>cXt_any u v n m a b la lb hn hm W (hT.still hb) (hu.keep hb) (hv.keep hb)
 have hk:=fun (W:World) (x:Value) (hb:Below w.heap.size w W) (hx:BytesIn W x 32 (xtN n a m b))=>keyFor_good lJoi (by decide) (by decide) x 32 (xtN n a m b) (xtN_lt _ _ _ _) (by decide) cs d hB ok W (hT.still hb) hx (hc.keep hb)
 replace hk:∀ (W:World) (x:Value),Below w.heap.size w W→BytesIn W x 32 (xtN n a m b)→Calls Tryz.prog 48 #[x,.string { data:=#[106,111,105,110,101,114] },.agg cs.toArray] W _:=hk
 obtain ⟨X,hX⟩:∃ X,X=xtN n a m b:=⟨_,rfl⟩
 obtain ⟨E,hE⟩:∃ E,E=exN 32 X lJoi (cxL d) (cxT d) 32:=⟨_,rfl⟩
 rw [←hX] at h1 hk ⊢
 rw [←hE] at hk ⊢
 obtain ⟨v0,v1,v2,rfl,g0,g1,g2⟩:=hc
 obtain ⟨N,hN⟩:∃ N,N=d.e:=⟨_,rfl⟩
 rw [←hN] at hk ⊢
 obtain ⟨x0,c0,rfl,-⟩:=hu.src
 obtain ⟨x1,c1,rfl,-⟩:=hv.src
 clear hN g0 g1 g2 ok hX hE hT hu hv hB
 have b1:Below w.heap.size w (w.alloc (.cells #[v0,.int .i64 N,v1,v2] 26)):=(Below.refl _ _).alloc (Nat.le_refl _) _
 have k1:=RW.fresh w [v0,.int .i64 N,v1,v2] 26
 go_enter Tryz.func16,Tryz.ntmps16
 go_upto_region 1 with (fail)
 generalize w.alloc (.cells #[v0,.int .i64 N,v1,v2] 26)=W0 at *
 have hd:Below W0.heap.size W0 W0.drew:=(Below.refl _ _).drew
 replace b1:=below_next b1 hd
 replace k1:=k1.still hd
 clear hd
 refine wp_region_noPanic ?_
 refine wp_region_held_drew (S:=fun u=>Below W0.drew.heap.size W0.drew u) (by kernel_rfl) (Below.refl _ _) (fun hS => ?_)
 generalize W0.drew=V at *
 refine tg 0 hS ?_
 (try simp only [pS])
 refine tg 1 hS ?_
 (try simp only [pS])
 refine tl 3 k1 hS 26 Tryz.underlying26 (infoCx _ _ _ _) ?_
 (try simp only [pS])
 refine cn 2 (h1 V b1) ?_
 rintro e w2 ⟨x2,c2,rfl,X2,hb2⟩
 refine ⟨_,rfl,hb2,?_⟩
 replace b1:=below_next b1 hb2
 clear k1 h1 hS hb2
 (try simp only [pS])
 refine cn 4 (hk w2 _ b1 X2) ?_
 rintro e w3 ⟨x3,c3,rfl,E3,hb3⟩
 refine ⟨_,rfl,hb3,?_⟩
 replace b1:=below_next b1 hb3
 clear hk hb3
 (try simp only [pS])
 refine tg 5 (Below.refl _ _) ?_
 (try simp only [pS])
 refine tg 6 (Below.refl _ _) ?_
 (try simp only [pS])
 refine tg 7 (Below.refl _ _) ?_
 (try simp only [pS])
 refine tg 8 (Below.refl _ _) ?_
 (try simp only [pS])
 refine wpAnyH_done (by kernel_rfl) ?_ _
 refine NoPanic.normal ?_
 go_wp2
 go_ret2
 exact ⟨_,_,rfl,E3,b1⟩
set_option maxRecDepth 20000 in
theorem joiner_bad (u v:Value) (n m:Nat) (a b:Nat→Nat) (la:∀ j,a j<256) (lb:∀ j,b j<256) (hn:n<140737488355000) (hm:m<140737488355000) (cs:List Value) (d:CxD) (ok:cxOk d=false) (w:World) (hT:TabAt w) (hu:BytesIn w u n a) (hv:BytesIn w v m b) (hc:CxIn w cs d) :
 Calls Tryz.prog 16 #[u,v,.agg cs.toArray] w fun e w'=>e = .returned (.tuple #[.slice none 0 0,.int .i64 1])∧Below w.heap.size w w':=by
 have h1:=fun (W:World) (hb:Below w.heap.size w W)=>cXt_any u v n m a b la lb hn hm W (hT.still hb) (hu.keep hb) (hv.keep hb)
 have hk:=fun (W:World) (x:Value) (hb:Below w.heap.size w W)=>keyFor_bad { data:=#[106,111,105,110,101,114] } x cs d ok W (hc.keep hb)
 obtain ⟨X,hX⟩:∃ X,X=xtN n a m b:=⟨_,rfl⟩
 rw [←hX] at h1
 obtain ⟨v0,v1,v2,rfl,g0,g1,g2⟩:=hc
 obtain ⟨N,hN⟩:∃ N,N=d.e:=⟨_,rfl⟩
 rw [←hN] at hk ⊢
 obtain ⟨x0,c0,rfl,-⟩:=hu.src
 obtain ⟨x1,c1,rfl,-⟩:=hv.src
 clear hN g0 g1 g2 ok hX hT hu hv
 have b1:Below w.heap.size w (w.alloc (.cells #[v0,.int .i64 N,v1,v2] 26)):=(Below.refl _ _).alloc (Nat.le_refl _) _
 have k1:=RW.fresh w [v0,.int .i64 N,v1,v2] 26
 go_enter Tryz.func16,Tryz.ntmps16
 go_upto_region 1 with (fail)
 generalize w.alloc (.cells #[v0,.int .i64 N,v1,v2] 26)=W0 at *
 have hd:Below W0.heap.size W0 W0.drew:=(Below.refl _ _).drew
 replace b1:=below_next b1 hd
 replace k1:=k1.still hd
 clear hd
 refine wp_region_noPanic ?_
 refine wp_region_held_drew (S:=fun u=>Below W0.drew.heap.size W0.drew u) (by kernel_rfl) (Below.refl _ _) (fun hS => ?_)
 generalize W0.drew=V at *
 refine tg 0 hS ?_
 (try simp only [pS])
 refine tg 1 hS ?_
 (try simp only [pS])
 refine tl 3 k1 hS 26 Tryz.underlying26 (infoCx _ _ _ _) ?_
 (try simp only [pS])
 refine cn 2 (h1 V b1) ?_
 rintro e w2 ⟨x2,c2,rfl,X2,hb2⟩
 refine ⟨_,rfl,hb2,?_⟩
 replace b1:=below_next b1 hb2
 clear k1 h1 hS hb2
 (try simp only [pS])
 refine cn 4 (hk w2 (.slice x2 32 c2) b1) ?_
 rintro e w3 ⟨rfl,hb3⟩
 refine ⟨_,rfl,hb3,?_⟩
 replace b1:=below_next b1 hb3
 clear hk hb3
 (try simp only [pS])
 refine tg 5 (Below.refl _ _) ?_
 (try simp only [pS])
 refine tg 6 (Below.refl _ _) ?_
 (try simp only [pS])
 refine tg 7 (Below.refl _ _) ?_
 (try simp only [pS])
 refine tg 8 (Below.refl _ _) ?_
 (try simp only [pS])
 refine wpAnyH_done (by kernel_rfl) ?_ _
 refine NoPanic.normal ?_
 go_wp2
 go_ret2
 exact ⟨rfl,b1⟩
end Go.Proofs.YtibmlmmoifgliaaGreatDoor
namespace Go.Proofs.YtibmlmmoifgliaaGreatDoor
open Go.RowKit
theorem num16_any (n:Int) (w:World):Calls Tryz.prog 12 #[.int .i64 n] w fun e w'=>e = .returned (.int .i64 n)∧w'=w:=by
 go_enter Tryz.func12,Tryz.ntmps12
 go_wp2
 go_ret
 exact ⟨rfl,rfl⟩
abbrev fTl:Value := .func (.func 84) #[] #[]
theorem ixP_nil (w:World):Calls Tryz.prog 107 #[.slice none 0 0,fTl] w fun e w'=>e = .returned (.int .i64 (-1))∧w'=w:=by
 go_enter Tryz.func107,Tryz.ntmps107
 go_wp2
 go_loopw [5,8] (fun _ i wr=>i = .int .i64 0∧wr=w) (fun _ _ _=>0)
 case atStart=>exact ⟨rfl,rfl⟩
 case round =>
  obtain ⟨rfl,rfl⟩:=hrel
  go_wp2
  go_ret
  exact ⟨rfl,rfl⟩
theorem cfP_nil (w:World):Calls Tryz.prog 83 #[.slice none 0 0,fTl] w fun e w'=>e = .returned (.bool false)∧w'=w:=by
 have h:=ixP_nil w
 go_enter Tryz.func83,Tryz.ntmps83
 go_wp2_with (go_at_call 107;refine h.mono ?_;clear h;rintro e w1 ⟨rfl,rfl⟩)
 go_ret
 exact ⟨rfl,rfl⟩
theorem chP_nil (v f:Value) (w:World):Calls Tryz.prog 85 #[v,.slice none 0 0,f] w fun e w'=>e = .returned (.tuple #[v,.int .i64 0])∧w'=w:=by
 go_enter Tryz.func85,Tryz.ntmps85
 go_wp2
 go_loopw [0,8,9,10,13] (fun k _ _ _ i wr=>k=v∧i = .int .i64 0∧wr=w) (fun _ _ _ _ _ _=>0)
 case atStart=>exact ⟨rfl,rfl,rfl⟩
 case round =>
  obtain ⟨rfl,rfl,rfl⟩:=hrel
  go_wp2
  go_ret2
  exact ⟨rfl,rfl⟩
set_option maxRecDepth 20000 in
theorem psk_nil (w:World):Calls Tryz.prog 47 #[.slice none 0 0] w fun e w'=>∃ x c,e = .returned (.tuple #[.slice x 32 c,.int .i64 0])∧BytesIn w' (.slice x 32 c) 32 lZ∧Below w.heap.size w w':=by
 have b1:Below w.heap.size w (w.alloc (.cells #[.slice none 0 0] 106)):=(Below.refl _ _).alloc (Nat.le_refl _) _
 have k1:=RW.fresh w [.slice none 0 0] 106
 go_enter Tryz.func47,Tryz.ntmps47
 go_upto_region 3 with (go_at_call 83;refine (cfP_nil _).mono ?_;rintro e w1 ⟨rfl,hw⟩;obtain rfl:=hw.symm)
 generalize w.alloc (.cells #[.slice none 0 0] 106)=W at *
 have hd:Below W.heap.size W W.drew:=(Below.refl _ _).drew
 replace b1:=below_next b1 hd
 replace k1:=k1.still hd
 clear hd
 refine wp_region_noPanic ?_
 refine wp_region_held_drew (S:=fun u=>Below W.drew.heap.size W.drew u) (by kernel_rfl) (Below.refl _ _) (fun hS => ?_)
 generalize W.drew=V at *
 refine tc 1 hS (fun u hu=>by simpa using (k1.still hu).range 0 _ rfl) ?_
 (try simp only [pS])
 refine tg 2 hS ?_
 (try simp only [pS])
 refine wpAnyH_ready (rs:=[0]) (by kernel_rfl) (by simp) ?_
 have hm:=make_bytes V 32 32 rfl (by decide)
 have hba:Below V.heap.size V (V.alloc (.cells (zb 32) 5)):=(Below.refl _ _).alloc (Nat.le_refl _) _
 refine AllReadyH.cons (at_list (by rfl)) (fun K hK => ?_) AllReadyH.nil
 go_simp
 refine hK.out _ _ hba (fun _ => ?_)
 clear hK K hm
 (try simp only [pS])
 refine cl 3 (chP_nil (.slice (some ⟨V.heap.size,0,none⟩) 32 32) (.func (.func 86) #[] #[.pointer (some ⟨w.heap.size,0,none⟩)]) (V.alloc (.cells (zb 32) 5))) ?_
 rintro e w2 ⟨rfl,hw2⟩
 obtain rfl:=hw2.symm
 refine ⟨_,rfl,hba,?_⟩
 (try simp only [pS])
 refine tg 4 hba ?_
 (try simp only [pS])
 refine tg 5 hba ?_
 (try simp only [pS])
 refine tg 6 hba ?_
 (try simp only [pS])
 refine tg 7 hba ?_
 (try simp only [pS])
 refine wpAnyH_done (by kernel_rfl) ?_ _
 refine NoPanic.normal ?_
 go_wp2
 go_ret2
 exact ⟨_,_,rfl,(Own.made V.heap.size V 32 (by decide) (Nat.le_refl _)).bytesIn,below_next b1 hba⟩
end Go.Proofs.YtibmlmmoifgliaaGreatDoor
namespace Go.Proofs.YtibmlmmoifgliaaGreatDoor
open Go.RowKit
set_option maxRecDepth 20000 in
set_option maxHeartbeats 4000000 in
theorem knows16 (w:World) (hT:TabAt w):Calls Tryz.prog 15 #[] w fun e w'=>e = .returned (.bool true)∧Below w.heap.size w w':=by
 have hE:=fun (v:Value) (W:World) (hT:TabAt W) (hz:BytesIn W v 32 lZ)=>epoch_good v v 32 32 lZ lZ lZ_lt5 lZ_lt5 (by decide) (by decide) [.slice none 0 0,.int .i64 0,.slice none 0 0,.slice none 0 0] d0C ⟨lZ_lt5,lZ_lt5,lZ_lt5⟩ (by decide) W hT hz hz ⟨_,_,_,rfl,nil_bytes W lZ,nil_bytes W lZ,nil_bytes W lZ⟩
 have hne:=strB_ne (n:=32) (exN_lt 32 (exN 32 (xtN 32 lZ 32 lZ) lEpo (cxL d0C) (cxT d0C) 32) (labS 8) 0 lZ 32) (exN_lt 32 (exN 32 (xtN 32 lZ 32 lZ) lEpo (cxL d0C) (cxT d0C) 32) (labS 4) 0 lZ 32) (by decide) ic_ne
 have lB:∀ i j,seB (xtN 32 lZ 32 lZ) (exN 32 (xtN 32 lZ 32 lZ) lEpo (cxL d0C) (cxT d0C) 32) lZ i j<256:=seB_lt lZ_lt5
 have i8:seB (xtN 32 lZ 32 lZ) (exN 32 (xtN 32 lZ 32 lZ) lEpo (cxL d0C) (cxT d0C) 32) lZ 8=exN 32 (exN 32 (xtN 32 lZ 32 lZ) lEpo (cxL d0C) (cxT d0C) 32) (labS 8) 0 lZ 32:=rfl
 have i4:seB (xtN 32 lZ 32 lZ) (exN 32 (xtN 32 lZ 32 lZ) lEpo (cxL d0C) (cxT d0C) 32) lZ 4=exN 32 (exN 32 (xtN 32 lZ 32 lZ) lEpo (cxL d0C) (cxT d0C) 32) (labS 4) 0 lZ 32:=rfl
 rw [←i8,←i4] at hne
 clear i8 i4
 generalize seB (xtN 32 lZ 32 lZ) (exN 32 (xtN 32 lZ 32 lZ) lEpo (cxL d0C) (cxT d0C) 32) lZ=SB at *
 have hTag:=fun (cs:List Value) (v:Value) (W:World) (hT:TabAt W) (hx:TxRow W cs 11 (seL 32) SB) (hz:BytesIn W v 32 lZ)=>tagS_any cs (seL 32) SB lB v 32 lZ lZ_lt5 (by decide) (by decide) W hT hx hz
 have c8:=fun (W:World) (v:Value) (h:BytesIn W v 32 (SB 8))=>h.cs (lB 8)
 have c4:=fun (W:World) (v:Value) (h:BytesIn W v 32 (SB 4))=>h.cs (lB 4)
 generalize strB 32 (SB 8)=SI at *
 generalize strB 32 (SB 4)=SC at *
 have e2:(SI.toList == SC.toList)=false:=by
  rw [beq_eq_false_iff_ne]
  exact fun e=>hne (WideShapes.bytes_inj (by simpa [ByteArray.toList_eq] using e))
 have e3:(SI.toList != SC.toList)=true:=by rw [bne,e2];rfl
 have cz:=fun (W:World) (v:Value) (h:BytesIn W v 32 lZ)=>h.cs lZ_lt5
 generalize strB 32 lZ=SZ at *
 have e1:(SZ.toList == SZ.toList)=true:=beq_self_eq_true _
 have hzb:BytesIn (w.alloc (.cells (zb 32) 5)) (.slice (some ⟨w.heap.size,0,none⟩) 32 32) 32 lZ:=(Own.made w.heap.size w 32 (by decide) (Nat.le_refl _)).bytesIn
 have b1:Below w.heap.size w (w.alloc (.cells (zb 32) 5)):=(Below.refl _ _).alloc (Nat.le_refl _) _
 have hm:=make_bytes w 32 32 rfl (by decide)
 have hp:=psk_nil (w.alloc (.cells (zb 32) 5))
 have HB:=Hid.mk' hzb
 have B1:=Hid.mk' b1
 have HT:=Hid.mk' hT
 clear hzb b1 hT hne
 go_enter Tryz.func15,Tryz.ntmps15
 go_upto_region 3 with (first
  | rw [hm]
  | (go_at_call 47;refine hp.mono ?_;clear hp;rintro e w2 ⟨x2,c2,rfl,P2,hb2⟩;have Z2:=HB.out.keep hb2;have b2:=below_next B1.out hb2;have hE2:=hE _ w2 (HT.out.still b2) Z2;clear hE HB B1))
 go_upto_region 4 with (first
  | (go_at_call 18;refine hE2.mono ?_;clear hE2;rintro e w3 ⟨L,rfl,T3,hb3⟩;(obtain ⟨v0,v1,v2,v3,v4,v5,v6,v7,v8,v9,v10,rfl⟩:∃ v0 v1 v2 v3 v4 v5 v6 v7 v8 v9 v10,L=[v0,v1,v2,v3,v4,v5,v6,v7,v8,v9,v10]:=(by match L,T3.1 with | [v0,v1,v2,v3,v4,v5,v6,v7,v8,v9,v10],_=>exact ⟨_,_,_,_,_,_,_,_,_,_,_,rfl⟩));(obtain ⟨y0,n0,d0,e0⟩:=(T3.2 0 _ rfl).isSl);subst e0;(obtain ⟨y1,n1,d1,e1⟩:=(T3.2 1 _ rfl).isSl);subst e1;(obtain ⟨y2,n2,d2,e2⟩:=(T3.2 2 _ rfl).isSl);subst e2;(obtain ⟨y3,n3,d3,e3⟩:=(T3.2 3 _ rfl).isSl);subst e3;(obtain ⟨y4,n4,d4,e4⟩:=(T3.2 4 _ rfl).isSl);subst e4;(obtain ⟨y5,n5,d5,e5⟩:=(T3.2 5 _ rfl).isSl);subst e5;(obtain ⟨y6,n6,d6,e6⟩:=(T3.2 6 _ rfl).isSl);subst e6;(obtain ⟨y7,n7,d7,e7⟩:=(T3.2 7 _ rfl).isSl);subst e7;(obtain ⟨y8,n8,d8,e8⟩:=(T3.2 8 _ rfl).isSl);subst e8;(obtain ⟨y9,n9,d9,e9⟩:=(T3.2 9 _ rfl).isSl);subst e9;(obtain ⟨y10,n10,d10,e10⟩:=(T3.2 10 _ rfl).isSl);subst e10;have Z3:=Z2.keep hb3;have P3:=P2.keep hb3;have b3:=below_next b2 hb3;clear Z2 P2 b2 hb2))
 have hbs:Below w3.heap.size w3 (w3.alloc (.cells #[.slice y0 n0 d0,.slice y1 n1 d1,.slice y2 n2 d2,.slice y3 n3 d3,.slice y4 n4 d4,.slice y5 n5 d5,.slice y6 n6 d6,.slice y7 n7 d7,.slice y8 n8 d8,.slice y9 n9 d9,.slice y10 n10 d10] 45)):=(Below.refl _ _).alloc (Nat.le_refl _) _
 have k:=RW.fresh w3 [.slice y0 n0 d0,.slice y1 n1 d1,.slice y2 n2 d2,.slice y3 n3 d3,.slice y4 n4 d4,.slice y5 n5 d5,.slice y6 n6 d6,.slice y7 n7 d7,.slice y8 n8 d8,.slice y9 n9 d9,.slice y10 n10 d10] 45
 have hw:=below_next b3 hbs
 have hT:=HT.out.still hw
 have hTx:=T3.still hbs
 have bz:=Z3.keep hbs
 have tz:=cz _ _ bz
 have tp:=cz _ _ (P3.keep hbs)
 have ti:=c8 _ _ (hTx.2 8 _ rfl)
 have tc:=c4 _ _ (hTx.2 4 _ rfl)
 have l4:(n8:Int)=32:=by
  obtain ⟨xx,cc,ee,-⟩:=(hTx.2 8 _ rfl).src
  injection ee with _ e2 _
  rw [e2];rfl
 clear hbs b3 Z3 P3 T3 HT c8 c4 cz hb3
 obtain ⟨d,hd⟩:∃ d,d=w3.heap.size:=⟨_,rfl⟩
 rw [←hd] at k ⊢
 clear hd
 generalize w3.alloc (.cells #[.slice y0 n0 d0,.slice y1 n1 d1,.slice y2 n2 d2,.slice y3 n3 d3,.slice y4 n4 d4,.slice y5 n5 d5,.slice y6 n6 d6,.slice y7 n7 d7,.slice y8 n8 d8,.slice y9 n9 d9,.slice y10 n10 d10] 45)=W4 at *
 have qz:=tz.conv W4 (Below.refl _ _)
 have qp:=tp.conv W4 (Below.refl _ _)
 have qi:=ti.conv W4 (Below.refl _ _)
 have qc:=tc.conv W4 (Below.refl _ _)
 have hk8:W4.cell? ⟨d,8,none⟩=some (.slice y8 n8 d8):=by simpa using k.range 8 _ rfl
 have hk4:W4.cell? ⟨d,4,none⟩=some (.slice y4 n4 d4):=by simpa using k.range 4 _ rfl
 have ht:=hTag _ _ W4 hT hTx bz
 have hlen:([.slice y0 n0 d0,.slice y1 n1 d1,.slice y2 n2 d2,.slice y3 n3 d3,.slice y4 n4 d4,.slice y5 n5 d5,.slice y6 n6 d6,.slice y7 n7 d7,.slice y8 n8 d8,.slice y9 n9 d9,.slice y10 n10 d10]:List Value).length=11:=rfl
 clear hTag hT hTx bz tz tp ti tc
 go_wp2_with (first
  | rw [qp]
  | rw [qz]
  | rw [qi]
  | rw [qc]
  | (go_at_call 12;refine (num16_any _ _).mono ?_;rintro e wn ⟨rfl,hwn⟩;obtain rfl:=hwn.symm)
  | (refine wpList_load_on (by rfl) 45 (.tmp 4) rfl d 0 rfl [.slice y0 n0 d0,.slice y1 n1 d1,.slice y2 n2 d2,.slice y3 n3 d3,.slice y4 n4 d4,.slice y5 n5 d5,.slice y6 n6 d6,.slice y7 n7 d7,.slice y8 n8 d8,.slice y9 n9 d9,.slice y10 n10 d10] _ k.range Tryz.underlying45 rfl (infoSec hlen) ?_)
  | (go_at_call 26;refine ht.mono ?_;clear ht;rintro e w9 ⟨x9,c9,rfl,-,hb9⟩;(replace hw:=below_next hw hb9)))
 go_ret
 exact ⟨rfl,hw⟩
end Go.Proofs.YtibmlmmoifgliaaGreatDoor
namespace Go.Proofs.YtibmlmmoifgliaaGreatDoor
open Go.RowKit
theorem RdC.size {lo hi:Nat} {w:World} {g L:Nat} {B:Nat→Nat} {r:Rd} (h:RdC lo hi w g L B r):hi≤w.heap.size:=h.choose_spec.2.2.2.2
end Go.Proofs.YtibmlmmoifgliaaGreatDoor
namespace Go.Proofs.YtibmlmmoifgliaaGreatDoor
open Go.RowKit
theorem RdC.ge {lo hi:Nat} {w:World} {g L:Nat} {B:Nat→Nat} {r:Rd} (h:RdC lo hi w g L B r):lo≤g:=h.choose_spec.2.2.2.1.1
end Go.Proofs.YtibmlmmoifgliaaGreatDoor
namespace Go.Proofs.YtibmlmmoifgliaaGreatDoor
open Go.RowKit
structure SameIn (lo hi:Nat) (w w':World):Prop where
 size:w.heap.size≤w'.heap.size
 block:∀ k,lo≤k→k<hi→w'.heap[k]? = w.heap[k]?
theorem SameIn.cell {lo hi:Nat} {w w':World} (h:SameIn lo hi w w') {k o:Nat} (h1:lo≤k) (h2:k<hi):w'.cell? ⟨k,o,none⟩=w.cell? ⟨k,o,none⟩:=World.cell?_of_block (w:=w) (h.block k h1 h2)
theorem SameIn.frozen {lo hi:Nat} {w w':World} (h:SameIn lo hi w w') {k o:Nat} (h1:lo≤k) (h2:k<hi):w'.frozen? ⟨k,o,none⟩=w.frozen? ⟨k,o,none⟩:=World.frozen?_of_block (w:=w) (h.block k h1 h2)
theorem SameIn.of_below {lo hi M:Nat} {w w':World} (h:Below M w w') (hM:hi≤M):SameIn lo hi w w':=⟨h.size,fun k _ h2=>h.block k (by omega)⟩
theorem SameIn.of_out {lo hi b o n:Nat} {w w':World} (h:Out b o n w w') (hb:b<lo∨hi≤b) (hh:hi≤w.heap.size):SameIn lo hi w w':=⟨h.size,fun k h1 h2=>h.block k (by omega) (by omega)⟩
theorem RW.same {lo hi:Nat} {w w':World} (s:SameIn lo hi w w') {g:Nat} {vs:List Value} (r:RW w g 0 vs) (h1:lo≤g) (h2:g<hi):RW w' g 0 vs :=
 ⟨fun j v hv=>(s.cell h1 h2).trans (r.range j v hv),fun j hj=>by rw [s.cell h1 h2,s.frozen h1 h2];exact r.there j hj,Nat.lt_of_lt_of_le r.lt s.size⟩
theorem RdC.same {lo hi:Nat} {w w':World} {g L:Nat} {B:Nat→Nat} {r:Rd} (h:RdC lo hi w g L B r) (s:SameIn lo hi w w'):RdC lo hi w' g L B r:=by
 obtain ⟨v,rr,hv,ha,hg,hh⟩:=h
 exact ⟨v,RW.same s rr hg.1 hg.2,BI.same hv fun b o z h1 h2 hc=>(s.cell h1 h2).trans hc,ha,hg,Nat.le_trans hh s.size⟩
def RdB (lo hi:Nat) (w:World) (g L:Nat) (B:Nat→Nat) (r:Rd):Prop:=∃ v,RW w g 0 [v,.int .i64 (r.at_:Int),.int .i64 r.e]∧BI lo hi w v L B∧r.at_≤L∧(lo≤g∧g<hi)∧hi≤w.heap.size
theorem RdB.same {lo hi:Nat} {w w':World} {g L:Nat} {B:Nat→Nat} {r:Rd} (h:RdB lo hi w g L B r) (s:SameIn lo hi w w'):RdB lo hi w' g L B r:=by
 obtain ⟨v,rr,hv,ha,hg,hh⟩:=h
 exact ⟨v,RW.same s rr hg.1 hg.2,BI.same hv fun b o z h1 h2 hc=>(s.cell h1 h2).trans hc,ha,hg,Nat.le_trans hh s.size⟩
theorem RdB.size {lo hi:Nat} {w:World} {g L:Nat} {B:Nat→Nat} {r:Rd} (h:RdB lo hi w g L B r):hi≤w.heap.size:=h.choose_spec.2.2.2.2
theorem RdB.ge {lo hi:Nat} {w:World} {g L:Nat} {B:Nat→Nat} {r:Rd} (h:RdB lo hi w g L B r):lo≤g:=h.choose_spec.2.2.2.1.1
theorem RdB.lt {lo hi:Nat} {w:World} {g L:Nat} {B:Nat→Nat} {r:Rd} (h:RdB lo hi w g L B r):g<hi:=h.choose_spec.2.2.2.1.2
theorem RdB.of {lo hi:Nat} {w:World} {g L:Nat} {B:Nat→Nat} {r:Rd} (h:RdB lo hi w g L B r):RdR w g L B r:=by
 obtain ⟨v,rr,hv,ha,hg,hh⟩:=h
 exact ⟨v,rr,hv.of hh,ha⟩
theorem RdB.turn {lo hi:Nat} {w w':World} {g L:Nat} {B:Nat→Nat} {r r':Rd} (h:RdB lo hi w g L B r) (h':RdR w' g L B r') (o:Out g 1 2 w w'):RdB lo hi w' g L B r':=by
 obtain ⟨v,rr,hv,ha,hg,hh⟩:=h
 obtain ⟨v',rr',-,ha'⟩:=h'
 have e0:w'.cell? ⟨g,0,none⟩=some v:=(o.cell 0 (by omega)).trans (rr.range 0 _ rfl)
 have e1:w'.cell? ⟨g,0,none⟩=some v':=rr'.range 0 _ rfl
 obtain rfl:v=v':=Option.some.inj (e0.symm.trans e1)
 refine ⟨v,rr',BI.same hv fun b p z h1 h2 hc => ?_,ha',hg,Nat.le_trans hh o.size⟩
 by_cases e:b=g
 · subst e
   by_cases e2:p=1∨p=2
   · have c1:w.cell? ⟨b,1,none⟩=some (.int .i64 (r.at_:Int)):=rr.range 1 _ rfl
     have c2:w.cell? ⟨b,2,none⟩=some (.int .i64 r.e):=rr.range 2 _ rfl
     rcases e2 with rfl | rfl
     · rw [c1] at hc;cases hc
     · rw [c2] at hc;cases hc
   · exact (o.cell p (by omega)).trans hc
 · exact (o.cell' (by omega) e).trans hc
structure Two (m lo hi hj:Nat) (w:World) (g k L:Nat) (B:Nat→Nat) (r:Rd):Prop where
 code:RdC lo hi w g L B r
 ref:RdB hi hj w k L B r
 low:m≤lo
theorem Two.same {m lo hi hj:Nat} {w w':World} {g k L:Nat} {B:Nat→Nat} {r:Rd} (h:Two m lo hi hj w g k L B r) (s:SameIn lo hj w w'):Two m lo hi hj w' g k L B r :=
 ⟨h.code.same ⟨s.size,fun c h1 h2=>s.block c h1 (Nat.lt_of_lt_of_le h2 (Nat.le_of_lt (Nat.lt_of_le_of_lt h.ref.ge h.ref.lt)))⟩,h.ref.same ⟨s.size,fun c h1 h2=>s.block c (Nat.le_trans (Nat.le_of_lt (Nat.lt_of_le_of_lt h.code.ge h.code.choose_spec.2.2.2.1.2)) h1) h2⟩,h.low⟩
theorem Two.still {m lo hi hj:Nat} {w w':World} {g k L:Nat} {B:Nat→Nat} {r:Rd} (h:Two m lo hi hj w g k L B r) (hb:Below w.heap.size w w'):Two m lo hi hj w' g k L B r:=h.same (SameIn.of_below hb h.ref.size)
theorem Two.whole {m lo hi hj:Nat} {w w':World} {g k L:Nat} {B:Nat→Nat} {r:Rd} (hl:m≤lo) (h:RdC lo hi w g L B r) (h':RdB hi hj w' k L B r) (o:Out k 1 2 w w'):Two m lo hi hj w' g k L B r∧Below m w w' :=
 ⟨⟨h.same (SameIn.of_out o (.inr h'.ge) h.size),h',hl⟩,o.below (Nat.le_trans (Nat.le_trans hl h.ge) (Nat.le_trans (Nat.le_of_lt h.choose_spec.2.2.2.1.2) h'.ge)) (Nat.le_trans (Nat.le_trans hl h.ge) (Nat.le_of_lt h.lt))⟩
end Go.Proofs.YtibmlmmoifgliaaGreatDoor
namespace Go.Proofs.YtibmlmmoifgliaaGreatDoor
open Go.RowKit
theorem RdC.putC {lo hi:Nat} {w:World} {g L:Nat} {B:Nat→Nat} {r:Rd} (h:RdC lo hi w g L B r) {c:Nat} (hc:c<lo) (o:Nat) (v:Value):RdC lo hi (w.setCell ⟨c,o,none⟩ v) g L B r :=
 h.same (SameIn.of_out (Out.setCell (n:=1) w v (Nat.le_refl o) (Nat.lt_succ_self o)) (.inl hc) h.size)
abbrev z4C:List Value:=[.slice none 0 0,.int .i64 0,.slice none 0 0,.slice none 0 0]
theorem zCx (w:World):Sem.run Tryz.prog (zeroValue 26) w = .ok (.agg z4C.toArray) w:=by kernel_rfl
theorem one4 {a b c:Value} {e:Int} (h1:∃ x n k,a = .slice x n k) (h2:∃ x n k,b = .slice x n k) (h3:∃ x n k,c = .slice x n k):[a,.int .i64 e,b,c].toArray.all (·.oneCell')=true:=by
 obtain ⟨_,_,_,rfl⟩:=h1
 obtain ⟨_,_,_,rfl⟩:=h2
 obtain ⟨_,_,_,rfl⟩:=h3
 simp [Value.oneCell']
structure GcS (w W:World) (lo hi g L:Nat) (B:Nat→Nat) (p:Rd) (vs:List Value):Prop where
 rd:RdC lo hi W g L B p
 kc:RW W (w.heap.size+1) 0 vs
 kr:RW W w.heap.size 0 z4C
 hb:Below w.heap.size w W
 low:w.heap.size+2≤lo
theorem GcS.turn {w W W':World} {lo hi g L:Nat} {B:Nat→Nat} {p p':Rd} {vs:List Value} (h:GcS w W lo hi g L B p vs) (o:Out g 0 2 W W') (r:RdC lo hi W' g L B p'):GcS w W' lo hi g L B p' vs:=by
 have hg:=h.rd.ge
 have hl:=h.low
 exact ⟨r,h.kc.out o (by omega),h.kr.out o (by omega),h.hb.trans (o.below (by omega) h.hb.size),h.low⟩
theorem GcS.put {w W:World} {lo hi g L:Nat} {B:Nat→Nat} {p:Rd} {vs:List Value} (h:GcS w W lo hi g L B p vs) (i:Nat) (hiv:i<vs.length) (v:Value):GcS w (W.setCell ⟨w.heap.size+1,i,none⟩ v) lo hi g L B p (vs.set i v):=by
 have hl:=h.low
 exact ⟨h.rd.putC (by omega) _ _,h.kc.put i hiv v,h.kr.far (w.heap.size+1) i [v] (.inl (by omega)),h.hb.setCell (show w.heap.size≤(⟨w.heap.size+1,i,none⟩:Addr).block from Nat.le_succ _) v,h.low⟩
theorem GcS.cell {w W:World} {lo hi g L:Nat} {B:Nat→Nat} {p:Rd} {vs:List Value} (h:GcS w W lo hi g L B p vs) (i:Nat) (v:Value) (hv:vs[i]? = some v):W.cell? ⟨w.heap.size+1,i,none⟩=some v∧W.frozen? ⟨w.heap.size+1,i,none⟩=false:=by
 have h1:=h.kc.range i v hv
 have h2:=(h.kc.there i (List.getElem?_eq_some_iff.1 hv).1).2
 rw [Nat.zero_add] at h1 h2
 exact ⟨h1,h2⟩
end Go.Proofs.YtibmlmmoifgliaaGreatDoor
