/- What the proof stands on: QRX, Grw, QCC, QCA, HExtr, QCX, QRE. -/
import Derived.Test.YtcgkajlehdgpoaaGreatDoorBase
import Derived.Test.YtcgkajlehdgpoaaGreatDoorHExpandM
import Derived.Test.YtcgkajlehdgpoaaGreatDoorHRefSumM
import Derived.Lib.AppendStr
import Derived.Lib.ConvBytes
namespace Go.Proofs.YtcgkajlehdgpoaaGreatDoor
open Go.RowKit
def strL (l:List Nat):ByteArray:=⟨(l.map UInt8.ofNat).toArray⟩
theorem litB_lt {l:List Nat} (h:∀ x,x∈l→x<256) (j:Nat):litB l j<256:=by
 unfold litB
 by_cases hj:j<l.length
 · rw [List.getD_eq_getElem?_getD,List.getElem?_eq_getElem hj];exact h _ (List.getElem_mem hj)
 · rw [List.getD_eq_getElem?_getD,List.getElem?_eq_none (by omega)];decide
theorem conv_label (w:World) (l:List Nat) (h:∀ x,x∈l→x<256):∃ c W,(convert 9 22 (.string (strL l))).run Tryz.prog w = .ok (.slice (some ⟨w.heap.size,0,none⟩) l.length c) W∧BytesIn W (.slice (some ⟨w.heap.size,0,none⟩) l.length c) l.length (litB l)∧Below w.heap.size w W:=by
 have hs:(strL l).size=l.length:=by simp [strL,ByteArray.size]
 have hr:=Lib.run_convert_string_bytes (P:=Tryz.prog) w 9 22 5 (strL l) Tryz.underlying9 Tryz.underlying22 Tryz.underlying5
 rw [hs] at hr
 refine ⟨_,_,hr,.inr ⟨w.heap.size,0,_,rfl,by rw [Lib.bytesWorld_size];exact Nat.lt_succ_self _,grownCap_ge _ _ _ _,fun j hj => ?_⟩,⟨by simp [Lib.bytesWorld,World.freeze,World.alloc,World.drew,-World.alloc_eq,-World.drew_eq],by simp [Lib.bytesWorld,World.freeze,World.alloc,World.drew,-World.alloc_eq,-World.drew_eq],by simp [Lib.bytesWorld,World.freeze,World.alloc,World.drew,-World.alloc_eq,-World.drew_eq],by rw [Lib.bytesWorld_size];exact Nat.le_succ _,fun k hk=>Lib.bytesWorld_at_old _ _ _ k hk⟩⟩
 have hx:=h _ (List.getElem_mem hj)
 have e:((strL l).data.toList.getD j 0).toNat=litB l j:=by simp [strL,litB,hj,Nat.mod_eq_of_lt hx]
 rw [Nat.zero_add,Lib.bytesWorld_cell w _ _ j (by rw [hs];exact hj),e]
theorem lV1_lt:∀ x,x∈lV1→x<256:=by decide
set_option maxRecDepth 20000 in
set_option maxHeartbeats 1000000 in
theorem rextract_any (suite label:List Nat) (hsu:∀ x,x∈suite→x<256) (hla:∀ x,x∈label→x<256) (hsz:suite.length+label.length≤100) (sv tv iv:Value) (sn m:Nat) (salt ikm:Nat→Nat) (hsalt:∀ j,salt j<256) (hikm:∀ j,ikm j<256) (hsn:sn<140737488355000) (hm:m+200<140737488355000) (w:World) (h1:BytesIn w sv suite.length (litB suite)) (h2:BytesIn w tv sn salt) (h3:BytesIn w iv m ikm) :
 Calls Tryz.prog 33 #[sv,tv,.string (strL label),iv] w fun e w'=>∃ s,e = .returned s∧Own w.heap.size w' s 32 (lxN suite sn salt label m ikm)∧Below w.heap.size w w':=by
 obtain ⟨xs,cs,rfl,-,-,-⟩:=h1.src
 obtain ⟨xi,ci,rfl,-,-,-⟩:=h3.src
 have hc:(convert 22 22 (.slice (some ⟨w.heap.size,0,none⟩) 7 7)).run Tryz.prog (w.alloc (.cells #[.int .u8 72,.int .u8 80,.int .u8 75,.int .u8 69,.int .u8 45,.int .u8 118,.int .u8 49] 5)) = .ok (.slice (some ⟨w.heap.size,0,none⟩) 7 7) (w.alloc (.cells #[.int .u8 72,.int .u8 80,.int .u8 75,.int .u8 69,.int .u8 45,.int .u8 118,.int .u8 49] 5 (7,8))):=convC w lV1
 have hb1:Below w.heap.size w (w.alloc (.cells #[.int .u8 72,.int .u8 80,.int .u8 75,.int .u8 69,.int .u8 45,.int .u8 118,.int .u8 49] 5 (7,8))):=(Below.refl _ _).alloc (Nat.le_refl _) _
 have hB1:BytesIn (w.alloc (.cells #[.int .u8 72,.int .u8 80,.int .u8 75,.int .u8 69,.int .u8 45,.int .u8 118,.int .u8 49] 5 (7,8))) (.slice (some ⟨w.heap.size,0,none⟩) 7 7) 7 (litB lV1):=litB_B w lV1 (7,8)
 obtain ⟨W1,hW1⟩:∃ W,W=w.alloc (.cells #[.int .u8 72,.int .u8 80,.int .u8 75,.int .u8 69,.int .u8 45,.int .u8 118,.int .u8 49] 5 (7,8)):=⟨_,rfl⟩
 rw [←hW1] at hc hb1 hB1
 obtain ⟨c3,W2,hcl,hB2,hb2⟩:=conv_label W1 label hla
 have hb02:=below_next hb1 hb2
 have hP:=parts_list W2 [(.slice (some ⟨w.heap.size,0,none⟩) 7 7,7,litB lV1),(.slice xs suite.length cs,suite.length,litB suite),(.slice (some ⟨W1.heap.size,0,none⟩) label.length c3,label.length,litB label),(.slice xi m ci,m,ikm)] 22 (by
  intro p hp
  simp only [List.mem_cons,List.not_mem_nil,or_false] at hp
  rcases hp with rfl | rfl | rfl | rfl
  · exact hB1.keep hb2
  · exact h1.keep hb02
  · exact hB2
  · exact h3.keep hb02)
 have hb3:Below w.heap.size w (W2.alloc (.cells #[.slice (some ⟨w.heap.size,0,none⟩) 7 7,.slice xs suite.length cs,.slice (some ⟨W1.heap.size,0,none⟩) label.length c3,.slice xi m ci] 22)):=hb02.alloc hb02.size _
 have hL:lenL (lxT suite label m ikm)=7+(suite.length+(label.length+(m+0))):=rfl
 have hlt:∀ j,catL (lxT suite label m ikm) j<256:=catL_lt _ (by
  intro p hp
  simp only [lxT,List.mem_cons,List.not_mem_nil,or_false] at hp
  rcases hp with rfl | rfl | rfl | rfl
  · exact litB_lt lV1_lt
  · exact litB_lt hsu
  · exact litB_lt hla
  · exact hikm)
 have hj:=rjoin_any W2.heap.size 4 4 (lenL (lxT suite label m ikm)) (catL (lxT suite label m ikm)) (by rw [hL];omega) (by decide) _ hP
 have hx:=fun v W hb hv=>rExtract_any tv v sn (lenL (lxT suite label m ikm)) salt (catL (lxT suite label m ikm)) hsalt hlt hsn (by rw [hL];omega) W (h2.keep hb) hv
 replace hj:Calls Tryz.prog 40 #[.slice (some ⟨W2.heap.size,0,none⟩) 4 4] (W2.alloc (.cells #[.slice (some ⟨w.heap.size,0,none⟩) 7 7,.slice xs suite.length cs,.slice (some ⟨W1.heap.size,0,none⟩) label.length c3,.slice xi m ci] 22)) _:=hj
 obtain ⟨N,hN⟩:∃ N,N=lenL (lxT suite label m ikm):=⟨_,rfl⟩
 obtain ⟨F,hF⟩:∃ F,F=catL (lxT suite label m ikm):=⟨_,rfl⟩
 obtain ⟨T,hT⟩:∃ T,T=lxN suite sn salt label m ikm:=⟨_,rfl⟩
 have hT2:tagH (keyB sn salt) N F=T:=by rw [hT,hN,hF];rfl
 rw [←hN,←hF] at hj hx
 rw [hT2] at hx
 rw [←hT]
 obtain ⟨S,hS⟩:∃ S,S=strL label:=⟨_,rfl⟩
 rw [←hS] at hcl ⊢
 clear hP hB1 hB2 hL hlt hN hF hT hT2 hS hW1 hb1 hb2 h1 h3
 go_enter Tryz.func33,Tryz.ntmps33
 go_wp2_with (first
  | rw [hc]
  | rw [hcl]
  | (go_at_call 40;refine hj.mono ?_;clear hj;rintro e w4 ⟨s4,rfl,own4,hb4⟩;(have b4:=below_next hb3 hb4))
  | (go_at_call 57;refine (hx s4 _ b4 own4.bytesIn).mono ?_;clear hx;rintro e w5 ⟨s5,rfl,own5,hb5⟩))
 go_ret
 exact ⟨s5,rfl,own5.lower b4.size,below_next b4 hb5⟩
end Go.Proofs.YtcgkajlehdgpoaaGreatDoor
namespace Go.Proofs.YtcgkajlehdgpoaaGreatDoor
open Go.RowKit
theorem run_append_zeros_nil (w:World) (ty:TypeId) (m:Nat) (h0:0<m) (hm:m≤1000000) :
 (Builtin.append_ #[22,3] ty #[.slice none 0 0,.int .i64 m]).run Tryz.prog w =
  .ok (.slice (some ⟨w.heap.size,0,none⟩) m (grownCap w m 0 5)) (w.drew.alloc (.cells ((ints .u8 m (fun _=>0)).toArray ++ Builtin.zeroCells #[.int .u8 0] (grownCap w m 0 5 - m)) 5)):=by
 obtain ⟨i,hi,hz,hz1,hz2⟩:=info_parts Tryz.info5
 have h63':¬ (9223372036854775807<(m:Int)):=by omega
 have hw:IntKind.i64.wrap (m:Int)=m:=by simp only [IntKind.wrap_i64];omega
 have hl0:¬((m:Int)<0):=by omega
 have h48:¬ (281474976710656<(m:Int)):=by omega
 have hm0:¬(m=0):=by omega
 have hai:∀ W,Sem.run Tryz.prog (asInt (.int .i64 (m:Int))) W = .ok (m:Int) W:=fun _=>rfl
 have hc:(Value.int IntKind.u8 0).cells=#[.int .u8 0]:=rfl
 have hu:=run_underlying (P:=Tryz.prog) Tryz.underlying22
 have hu2:=run_underlying (P:=Tryz.prog) Tryz.underlying3
 have hns:¬ (281474976710656<Builtin.nextslicecap m 0):=by rw [nextslicecap_zero h0];omega
 simp [Builtin.append_,hu,hu2,sizeOf,typeInfo,zeroValue,hi,hz,hai,hw,hl0,h48,hz1,hz2,h63',Question.forced,run_firstCells_none,newRow,grownCap,hc,hm0,hns]
 rw [zeroCells_u8 m]
theorem append_zeros0 (w:World) (ty:TypeId) (m:Nat) (h0:0<m) (hm:m≤1000000) :
 ∃ g cap w',(Builtin.append_ #[22,3] ty #[.slice none 0 0,.int .i64 m]).run Tryz.prog w = .ok (.slice (some ⟨g,0,none⟩) m cap) w'∧m≤cap∧Own w.heap.size w' (.slice (some ⟨g,0,none⟩) 0 cap) 0 (fun _=>0)∧Below w.heap.size w w':=by
 have hge:=grownCap_ge w m 0 5
 have hcm:=grownCap_le_maxLen w m 0 5 (by unfold maxLen;omega)
 refine ⟨_,_,_,run_append_zeros_nil w ty m h0 hm,hge,⟨rfl,.inr ⟨w.heap.size,_,_,rfl,Nat.le_refl _,heap_alloc_new w.drew _,Nat.zero_le _,hcm,?_,rfl⟩⟩,((Below.refl _ _).drew).alloc (Nat.le_refl _) _⟩
 simp only [Array.size_append,List.size_toArray,size_zeroCells,ints_len]
 simp
 omega
theorem wpList_append_zeros0 {w:World} {ops:Array Oper} {rest:List Oper} {o:Oper} {a:Act} {Q:Exit→Act→World→Prop} (hgd:o.guard=none) (s x:Operand)
 (ho:o.op = .call { callee := .builtin .append,args:=#[s,x],argTypes:=#[22,3] }) (hs:a.eval s = .slice none 0 0) (m:Nat) (hx:a.eval x = .int .i64 m) (h0:0<m) (hm:m≤1000000)
 (h:∀ g cap w',m≤cap→Own w.heap.size w' (.slice (some ⟨g,0,none⟩) 0 cap) 0 (fun _=>0)→Below w.heap.size w w'→wpList Tryz.prog ops Q rest (a.put o.dst (.slice (some ⟨g,0,none⟩) m cap)) w'):wpList Tryz.prog ops Q (o :: rest) a w:=by
 refine wpList_plain hgd fun K hK => ?_
 obtain ⟨g,cap,w',h1,h2,h3,h4⟩:=append_zeros0 w o.type m h0 hm
 unfold Oper.wp execOp
 simp only [ho,resolve,invoke,builtin,Sem.run_bind,Sem.run_pure,Result.andThen_ok,List.map_toArray,List.map_cons,List.map_nil,hs,hx,h1]
 exact hK _ _ (h g cap w' h2 h3 h4)
set_option maxRecDepth 20000 in
set_option maxHeartbeats 4000000 in
theorem grow_any (m:Nat) (h0:0<m) (hm:m≤1000000) (w:World) :
 Calls Tryz.prog 86 #[.slice none 0 0,.int .i64 m] w fun e w'=>∃ g cap,e = .returned (.slice (some ⟨g,0,none⟩) 0 cap)∧Own w.heap.size w' (.slice (some ⟨g,0,none⟩) 0 cap) 0 (fun _=>0)∧Below w.heap.size w w':=by
 have e1:¬((m:Int)<0):=by omega
 have e2:(0:Int)<(m:Int):=by omega
 have e3:IntKind.i64.wrap ((m:Int) - 0)=(m:Int):=by simp only [IntKind.wrap_i64];omega
 have e4:IntKind.i64.wrap (m:Int)=(m:Int):=by simp only [IntKind.wrap_i64];omega
 go_enter Tryz.func86,Tryz.ntmps86
 go_wp2_with (at_builtin;refine wpList_append_zeros0 rfl (.tmp 20) (.tmp 21) rfl rfl m rfl h0 hm ?_;intro g cap w1 hcap own hb)
 go_ret
 exact ⟨g,cap,rfl,own,hb⟩
end Go.Proofs.YtcgkajlehdgpoaaGreatDoor
namespace Go.Proofs.YtcgkajlehdgpoaaGreatDoor
open Go.RowKit
set_option maxRecDepth 20000 in
set_option maxHeartbeats 8000000 in
theorem concat_parts (gp cnt m:Nat) (t:Nat→Nat) (w:World) (hP:Parts w gp cnt m t) (hcnt:cnt≤1000) (hsum:m≤1000000) (h0:0<m) :
 Calls Tryz.prog 61 #[.slice (some ⟨gp,0,none⟩) cnt cnt] w fun e w'=>∃ s,e = .returned s∧Own w.heap.size w' s m t∧Below w.heap.size w w':=by
 obtain ⟨pvs,L,p0,p1,p2⟩:=hP
 have P2:=Hid.mk' p2
 clear p2
 have hg:=grow_any m h0 hsum w
 go_enter Tryz.func61,Tryz.ntmps61
 go_wp2
 go_loopw [3,11] (fun s i wr=>∃ q T:Nat,q≤cnt∧i = .int .i64 q∧Hid (T=L q)∧s = .int .i64 T∧w=wr) (fun _ i _=>cnt - (intOf i).toNat)
 case atStart=>exact ⟨0,0,Nat.zero_le _,rfl,Hid.mk' p0.symm,rfl,rfl⟩
 case round =>
  obtain ⟨q,T,hq,rfl,HT,rfl,rfl⟩:=hrel
  by_cases hlt:q<cnt
  · obtain ⟨c1,c2,c3,c4⟩:=P2.out q hlt
    obtain ⟨xp,cp,hpv,hxn,hncp,hsrc⟩:=c4.src
    obtain ⟨n,hn⟩:∃ n,n=L (q+1) - L q:=⟨_,rfl⟩
    have hTn:T+n=L (q+1):=by have:=HT.out;omega
    have hTm:T+n≤1000000:=by omega
    have r0:w.cell? ⟨gp,q,none⟩=some (.slice xp n cp):=by rw [c1,hpv,hn]
    have hqi:(0:Int)≤(q:Int)∧(q:Int)<cnt:=by omega
    have hd:decide ((q:Int)<(cnt:Int))=true:=decide_eq_true (by omega)
    have ew:IntKind.i64.wrap ((T:Int)+(n:Int))=(T:Int)+n:=by simp only [IntKind.wrap_i64];omega
    have en:¬((T:Int)+(n:Int)<0):=by omega
    have HN:Hid (T+n=L (q+1)):=hTn
    clear hn hTn c1 c2 c3 c4 hpv hsrc hg p0 p1
    go_wp2
    go_roundw
    case rel=>exact ⟨q+1,T+n,by omega,by go_num,Hid.mk' HN.out,by simp,by first | rfl | trivial⟩
    case measure=>simp [intOf];omega
  · have hqe:q=cnt:=by omega
    subst hqe
    have hTm:T=m:=by rw [HT.out,p1]
    subst hTm
    go_wp2_with (go_at_call 86;refine hg.mono ?_;clear hg;rintro e w1 ⟨g1,cap1,rfl,own1,hb1⟩)
    have hd0:decide ((q:Int)<(q:Int))=false:=decide_eq_false (by omega)
    try rw [hd0]
    clear hd0 hlt HT
    go_loopw [6,27] (fun ns i wr=>∃ r A:Nat,r≤q∧i = .int .i64 r∧Hid (A=L r)∧Own w.heap.size wr ns A t∧Below w.heap.size w wr) (fun _ i _=>q - (intOf i).toNat)
    case atStart=>exact ⟨0,0,Nat.zero_le _,rfl,Hid.mk' p0.symm,own1.congr (fun j hj=>absurd hj (Nat.not_lt_zero j)),hb1⟩
    case round =>
     clear own1 hb1
     obtain ⟨r,A,hr,rfl,HA,own,hbw⟩:=hrel
     by_cases hlt:r<q
     · obtain ⟨c1,c2,c3,c4⟩:=P2.out r hlt
       obtain ⟨xp,cp,hpv,hxn,hncp,hsrc⟩:=c4.src
       obtain ⟨n,hn⟩:∃ n,n=L (r+1) - L r:=⟨_,rfl⟩
       have hTn:A+n=L (r+1):=by have:=HA.out;omega
       have hTm:A+n≤1000000:=by omega
       have r0:wr.cell? ⟨gp,r,none⟩=some (.slice xp n cp):=by rw [hbw.cell (p:=⟨gp,r,none⟩) (block_lt_of_cell c1),c1,hpv,hn]
       have hcg:∀ z,z<A+n→cat A t (fun j=>t (L r+j)) z=t z:=fun z hz=>by
        have:=HA.out
        unfold cat
        by_cases e:z<A
        · rw [if_pos e]
        · rw [if_neg e]
          show t (L r+(z - A))=t z
          rw [show L r+(z - A)=z by omega]
       have src:=hsrc wr hbw
       rw [←hn] at src
       obtain ⟨Y,hY⟩:∃ Y:Nat→Nat,Y=fun j=>t (L r+j):=⟨_,rfl⟩
       rw [←hY] at src hcg
       have hqi:(0:Int)≤(r:Int)∧(r:Int)<q:=by omega
       have hd:decide ((r:Int)<(q:Int))=true:=decide_eq_true (by omega)
       have hsz:=hbw.size
       have HN:Hid (A+n=L (r+1)):=hTn
       clear hn hTn c1 c2 c3 c4 hpv hsrc p0 p1 hY
       go_wp2_with (at_builtin;refine wpList_append_bytes rfl (.tmp 31) (.tmp 32) rfl w.heap.size u6 A t rfl own xp n cp Y rfl src hxn (by omega) hsz ?_;intro v6 w6 own6 grow6;(have hb6:Below w.heap.size w w6:=Own.grown hbw grow6 own (Nat.le_refl _) hsz))
       go_roundw
       case rel=>exact ⟨r+1,A+n,by omega,by go_num,Hid.mk' HN.out,own6.congr hcg,hb6⟩
       case measure=>simp [intOf];omega
     · have hqe:r=q:=by omega
       subst hqe
       have hA:=HA.out
       rw [p1] at hA
       go_wp2
       go_ret
       exact ⟨_,rfl,by rw [←hA];exact own,hbw⟩
theorem Parts.congr {w:World} {gp cnt m:Nat} {t u:Nat→Nat} (h:Parts w gp cnt m t) (e:∀ j,j<m→t j=u j):Parts w gp cnt m u:=by
 obtain ⟨pvs,L,p0,p1,p2⟩:=h
 refine ⟨pvs,L,p0,p1,fun i hi => ?_⟩
 obtain ⟨c1,c2,c3,c4⟩:=p2 i hi
 exact ⟨c1,c2,c3,c4.cong fun j hj=>e _ (by omega)⟩
theorem Parts.keep {w w':World} {gp cnt m:Nat} {t:Nat→Nat} (h:Parts w gp cnt m t) (hb:Below w.heap.size w w'):Parts w' gp cnt m t:=by
 obtain ⟨pvs,L,p0,p1,p2⟩:=h
 refine ⟨pvs,L,p0,p1,fun i hi => ?_⟩
 obtain ⟨c1,c2,c3,c4⟩:=p2 i hi
 exact ⟨(hb.cell (p:=⟨gp,i,none⟩) (block_lt_of_cell c1)).trans c1,c2,c3,c4.keep hb⟩
def Texts (w:World) (v:Value) (cnt m:Nat) (t:Nat→Nat):Prop:=(v = .slice none 0 0∧cnt=0∧m=0)∨∃ gp,v = .slice (some ⟨gp,0,none⟩) cnt cnt∧Parts w gp cnt m t
theorem Texts.keep {w w':World} {v:Value} {cnt m:Nat} {t:Nat→Nat} (h:Texts w v cnt m t) (hb:Below w.heap.size w w'):Texts w' v cnt m t:=by
 rcases h with h | ⟨gp,hv,hP⟩
 · exact .inl h
 · exact .inr ⟨gp,hv,hP.keep hb⟩
theorem texts_none (w:World) (t:Nat→Nat):Texts w (.slice none 0 0) 0 0 t := .inl ⟨rfl,rfl,rfl⟩
theorem texts_one (w:World) (v:Value) (m:Nat) (t:Nat→Nat) (h:BytesIn w v m t):Texts (w.alloc (.cells #[v] 22)) (.slice (some ⟨w.heap.size,0,none⟩) 1 1) 1 m t :=
 .inr ⟨w.heap.size,rfl,(parts_list w [(v,m,t)] 22 (fun p hp=>by
  simp only [List.mem_cons,List.not_mem_nil,or_false] at hp
  subst hp
  exact h)).congr fun j hj=>by
  show cat m t (fun _=>0) j=t j
  exact cat_left hj⟩
theorem texts_two (w:World) (v u:Value) (n m:Nat) (t s:Nat→Nat) (h1:BytesIn w v n t) (h2:BytesIn w u m s):Texts (w.alloc (.cells #[v,u] 22)) (.slice (some ⟨w.heap.size,0,none⟩) 2 2) 2 (n+m) (catL [(n,t),(m,s)]) :=
 .inr ⟨w.heap.size,rfl,parts_list w [(v,n,t),(u,m,s)] 22 (fun p hp=>by
  simp only [List.mem_cons,List.not_mem_nil,or_false] at hp
  rcases hp with rfl | rfl
  · exact h1
  · exact h2)⟩
end Go.Proofs.YtcgkajlehdgpoaaGreatDoor
namespace Go.Proofs.YtcgkajlehdgpoaaGreatDoor
open Go.RowKit
theorem strCells_lit (l:List Nat) (h:∀ x,x∈l→x<256):Lib.strCells (strL l)=ints .u8 l.length (litB l):=by
 apply List.ext_getElem?
 intro j
 by_cases hj:j<l.length
 · rw [ints_at _ _ _ j hj]
   have hx:=h _ (List.getElem_mem hj)
   simp [Lib.strCells,strL,litB,hj,Nat.mod_eq_of_lt hx]
 · rw [List.getElem?_eq_none (by rw [Lib.strCells_length];simp [strL,ByteArray.size];omega),List.getElem?_eq_none (by rw [ints_len];omega)]
theorem wpList_append_str {w:World} {ops:Array Oper} {rest:List Oper} {o:Oper} {a:Act} {Q:Exit→Act→World→Prop} (hgd:o.guard=none) (s x:Operand) (tu:TypeId) (hu:Tryz.prog.underlying tu=some .string)
 (ho:o.op = .call { callee := .builtin .append,args:=#[s,x],argTypes:=#[22,tu] }) (base:Nat)
 (v:Value) (n:Nat) (X:Nat→Nat) (hs:a.eval s=v) (hown:Own base w v n X) (l:List Nat) (hlt:∀ x,x∈l→x<256) (hx:a.eval x = .string (strL l))
 (hl:n+l.length≤140737488355328) (hbase:base≤w.heap.size)
 (h:∀ v' w',Own base w' v' (n+l.length) (cat n X (litB l))→w.grownBy w' v.ownBlock→wpList Tryz.prog ops Q rest (a.put o.dst v') w'):wpList Tryz.prog ops Q (o :: rest) a w:=by
 obtain ⟨i0,hi,hz0,hz1,hz2⟩:=info_parts Tryz.info5
 have hsz:(strL l).size=l.length:=by simp [strL,ByteArray.size]
 refine wpList_plain hgd fun K hK => ?_
 obtain ⟨v',w',h1,h2,h3,-⟩:=Lib.run_append_own_string (P:=Tryz.prog) (w:=w) base 22 tu o.type 5 i0 Tryz.underlying22 hu hi hz0 hz1 hz2 v n _ hown (strL l) (by rw [hsz];unfold maxLen;omega) (by rw [hsz];omega) hbase
 rw [hsz,strCells_lit l hlt,ints_add] at h2
 unfold Oper.wp execOp
 simp only [ho,resolve,invoke,builtin,Sem.run_bind,Sem.run_pure,Result.andThen_ok,List.map_toArray,List.map_cons,List.map_nil,hs,hx,h1]
 exact hK _ _ (h v' w' h2 h3)
theorem Own.slice {base:Nat} {w:World} {v:Value} {n:Nat} {X:Nat→Nat} (h:Own base w v n X):∃ x c,v = .slice x n c:=by
 rcases h.form with ⟨hv,e0⟩ | ⟨g,c,hv,_⟩
 · exact ⟨none,0,by rw [hv,e0]⟩
 · exact ⟨_,c,hv⟩
def lbT (suite label:List Nat) (an:Nat) (A:Nat→Nat) (m:Nat) (t:Nat→Nat):List (Nat × (Nat→Nat)):=(an,A) :: lxT suite label m t
theorem lbT_front (suite label:List Nat) (an:Nat) (A:Nat→Nat) (m:Nat) (t:Nat→Nat) (j:Nat) (hj:j<an+7+suite.length+label.length) :
 cat (an+7+suite.length) (cat (an+7) (cat an A (litB lV1)) (litB suite)) (litB label) j=catL (lbT suite label an A m t) j:=by
 show _=cat an A (cat 7 (litB lV1) (cat suite.length (litB suite) (cat label.length (litB label) (cat m t (fun _=>0))))) j
 unfold cat
 by_cases h1:j<an
 · simp only [h1,show j<an+7 by omega,show j<an+7+suite.length by omega,if_true]
 · by_cases h2:j<an+7
   · simp only [h1,h2,show j - an<7 by omega,show j<an+7+suite.length by omega,if_true,if_false]
   · by_cases h3:j<an+7+suite.length
     · simp only [h1,h2,h3,show ¬j - an<7 by omega,show j - (an+7)<suite.length by omega,if_true,if_false,Nat.sub_sub]
     · simp only [h1,h3,show ¬j - an<7 by omega,show ¬j - (an+7)<suite.length by omega,show j - (an+7+suite.length)<label.length by omega,if_true,if_false,Nat.sub_sub]
theorem lbT_back (suite label:List Nat) (an:Nat) (A:Nat→Nat) (m:Nat) (t:Nat→Nat) (j:Nat) (hj:j<m):catL (lbT suite label an A m t) (an+7+suite.length+label.length+j)=t j:=by
 show cat an A (cat 7 (litB lV1) (cat suite.length (litB suite) (cat label.length (litB label) (cat m t (fun _=>0))))) _=_
 unfold cat
 rw [if_neg (by omega),if_neg (by omega),if_neg (by omega),if_neg (by omega),if_pos (by omega)]
 congr 1
 omega
set_option maxRecDepth 20000 in
set_option maxHeartbeats 4000000 in
theorem labelled_any (suite label:List Nat) (hsu:∀ x,x∈suite→x<256) (hla:∀ x,x∈label→x<256) (hsz:suite.length+label.length≤100) (av tv:Value) (an cnt m:Nat) (A t:Nat→Nat) (han:an≤100) (hcnt:cnt<1000000) (hm:m+300<140737488355000) (w:World) (h1:BytesIn w av an A) (h2:Texts w tv cnt m t) :
 Calls Tryz.prog 51 #[.string (strL suite),av,.string (strL label),tv] w fun e w'=>∃ s,e = .returned s∧Own w.heap.size w' s (an+7+suite.length+label.length+m) (catL (lbT suite label an A m t))∧Below w.heap.size w w':=by
 obtain ⟨xa,ca,rfl,hxa,-,hsa⟩:=h1.src
 obtain ⟨xt,gp,pvs,L,hxt,hxs,p0,p1,p2⟩:∃ (xt:Option Addr) (gp:Nat) (pvs:Nat→Value) (L:Nat→Nat),tv = .slice xt cnt cnt∧(0<cnt→xt=some ⟨gp,0,none⟩)∧L 0=0∧L cnt=m∧∀ i,i<cnt→w.cell? ⟨gp,i,none⟩=some (pvs i)∧L i≤L (i+1)∧L (i+1)≤m∧BytesIn w (pvs i) (L (i+1) - L i) (fun j=>t (L i+j)):=by
  rcases h2 with ⟨rfl,rfl,rfl⟩ | ⟨gp,rfl,pvs,L,q0,q1,q2⟩
  · exact ⟨none,0,fun _ => .bool false,fun _=>0,rfl,fun h=>absurd h (Nat.lt_irrefl 0),rfl,rfl,fun i hi=>absurd hi (Nat.not_lt_zero i)⟩
  · exact ⟨_,gp,pvs,L,rfl,fun _=>rfl,q0,q1,q2⟩
 subst hxt
 have P2:=Hid.mk' p2
 clear p2
 obtain ⟨T,hT⟩:∃ T,T=an+7+suite.length+label.length:=⟨_,rfl⟩
 obtain ⟨F,hF⟩:∃ F,F=catL (lbT suite label an A m t):=⟨_,rfl⟩
 have hfr:=lbT_front suite label an A m t
 have hbk:=lbT_back suite label an A m t
 rw [←hF,←hT] at hfr hbk
 have hT2:T≤300:=by omega
 rw [←hF,←hT]
 have hs0:=hsa w (Below.refl _ _)
 have HT:Hid (T=an+7+suite.length+label.length):=hT
 clear hT hF hsa h1 h2
 go_enter Tryz.func51,Tryz.ntmps51
 go_wp2_with (first
  | (at_builtin;refine wpList_append_bytes rfl (.const (.slice none 0 0)) (.tmp 12) rfl w.heap.size _ 0 A rfl (Own.nil _ _ _) xa an ca A rfl hs0 hxa (by omega) (Nat.le_refl _) ?_;intro v1 w1 own1 g1;(have b1:=Own.grown (Below.refl _ _) g1 (Own.nil _ _ A) (Nat.le_refl _) (Nat.le_refl _));rw [Nat.zero_add] at own1;replace own1:=own1.congr (Y:=A) (fun j _=>by unfold cat;rw [if_neg (by omega),Nat.sub_zero]);(obtain ⟨y1,d1,e1⟩:=own1.slice);subst e1;clear hs0)
  | (at_builtin;refine wpList_append_str rfl (.tmp 14) _ 9 Tryz.underlying9 rfl w.heap.size _ an A rfl own1 lV1 lV1_lt rfl (by show an+7≤_;omega) b1.size ?_;intro v2 w2 own2 g2;(have b2:=Own.grown b1 g2 own1 (Nat.le_refl _) b1.size);(replace own2:Own _ _ _ (an+7) _:=own2);(obtain ⟨y2,d2,e2⟩:=own2.slice);subst e2;clear own1)
  | (at_builtin;refine wpList_append_str rfl (.tmp 16) (.tmp 17) 63 Tryz.underlying63 rfl w.heap.size _ (an+7) _ rfl own2 suite hsu rfl (by omega) b2.size ?_;intro v3 w3 own3 g3;(have b3:=Own.grown b2 g3 own2 (Nat.le_refl _) b2.size);(obtain ⟨y3,d3,e3⟩:=own3.slice);subst e3;clear own2)
  | (at_builtin;refine wpList_append_str rfl (.tmp 19) (.tmp 20) 9 Tryz.underlying9 rfl w.heap.size _ (an+7+suite.length) _ rfl own3 label hla rfl (by omega) b3.size ?_;intro v4 w4 own4 g4;(have b4:=Own.grown b3 g4 own3 (Nat.le_refl _) b3.size);replace own4:=own4.congr (fun j hj=>hfr j (by have:=HT.out;omega));rw [←HT.out] at own4;(obtain ⟨y4,d4,e4⟩:=own4.slice);subst e4;clear own3))
 clear hfr
 go_loopw [9,24] (fun o i wr=>∃ k B:Nat,k≤cnt∧Hid (B=T+L k)∧i = .int .i64 (k:Int)∧(∃ xo co,o = .slice xo B co∧Own w.heap.size wr (.slice xo B co) B F)∧Below w.heap.size w wr) (fun _ i _=>cnt - (intOf i).toNat)
 case atStart=>exact ⟨0,T,Nat.zero_le _,Hid.mk' (by rw [p0,Nat.add_zero]),by go_num,⟨y4,d4,rfl,own4⟩,b4⟩
 case round =>
  obtain ⟨k,B,hk,HB,rfl,⟨xo,co,rfl,own⟩,hb⟩:=hrel
  clear own4 b4
  by_cases hlt:k<cnt
  · obtain rfl:=hxs (Nat.lt_of_le_of_lt (Nat.zero_le _) hlt)
    obtain ⟨c1,c2,c3,c4⟩:=P2.out k hlt
    obtain ⟨xs,cs,hp,hxn,-,hsrc⟩:=c4.src
    have hc:wr.cell? ⟨gp,k,none⟩=some (.slice xs (L (k+1) - L k) cs):=by
     rw [←hp]
     exact (hb.cell (p:=⟨gp,k,none⟩) (block_lt_of_cell c1)).trans c1
    have hs:=hsrc wr hb
    obtain ⟨D,hD⟩:∃ D,D=L (k+1) - L k:=⟨_,rfl⟩
    have hl:B+D=T+L (k+1):=by have:=HB.out;omega
    have hlm:B+D≤140737488355328:=by omega
    have hcg:∀ q,q<B+D→cat B F (fun j=>t (L k+j)) q=F q:=fun q hq=>by
     have:=HB.out
     unfold cat
     by_cases e:q<B
     · rw [if_pos e]
     · rw [if_neg e]
       show t (L k+(q - B))=F q
       rw [←hbk (L k+(q - B)) (by omega),show T+(L k+(q - B))=q by omega]
    obtain ⟨Y,hY⟩:∃ Y:Nat→Nat,Y=fun j=>t (L k+j):=⟨_,rfl⟩
    rw [←hD] at hc hs
    rw [←hY] at hs hcg
    have hki:(k:Int)<cnt:=by omega
    have Hl:Hid (B+D=T+L (k+1)):=hl
    clear c1 c2 c3 c4 hp hsrc hD hl hY p0 p1 hbk
    go_wp2_with (at_builtin;refine wpList_append_bytes rfl (.tmp 28) (.tmp 29) rfl w.heap.size _ B F rfl own xs D cs Y rfl hs hxn hlm hb.size ?_;intro v7 w7 own7 hg7;have hb7:=Own.grown hb hg7 own (Nat.le_refl _) hb.size)
    have own8:Own w.heap.size w7 v7 (B+D) F:=own7.congr hcg
    obtain ⟨x7,c7,hv7⟩:=own8.slice
    subst hv7
    clear own own7
    go_wp2
    go_roundw
    case rel=>exact ⟨k+1,B+D,by omega,Hid.mk' Hl.out,by go_num,⟨x7,c7,rfl,own8⟩,hb7⟩
    case measure=>show cnt - ((k:Int)+1).toNat<cnt - (k:Int).toNat;omega
  · have hqe:k=cnt:=by omega
    subst hqe
    have hB:=HB.out
    rw [p1] at hB
    go_wp2
    go_ret
    exact ⟨_,rfl,by rw [←hB];exact own,hb⟩
end Go.Proofs.YtcgkajlehdgpoaaGreatDoor
namespace Go.Proofs.YtcgkajlehdgpoaaGreatDoor
open Go.RowKit
theorem extract_any (v tv:Value) (n m:Nat) (bs t:Nat→Nat) (hbs:∀ j,bs j<256) (ht:∀ j,t j<256) (hnb:n<2305843009213693000) (hm:m<2305843009213693000) (w:World) (hT:HTab w cubeK squareK) (hv:BytesIn w v n bs) (htv:BytesIn w tv m t) :
 Calls Tryz.prog 52 #[v,tv] w fun e w'=>∃ g,e = .returned (.slice (some ⟨g,0,none⟩) 32 32)∧w.heap.size≤g∧RowAt .u8 w' g 0 32 (tagH (keyB n bs) m t)∧Below w.heap.size w w':=by
 have c1:=hmac_any v tv n m bs t hbs ht hnb hm w hT hv htv
 obtain ⟨X,hX⟩:∃ X,X=tagH (keyB n bs) m t:=⟨_,rfl⟩
 rw [←hX] at c1 ⊢
 clear hX hT hv htv
 go_enter Tryz.func52,Tryz.ntmps52
 go_wp2_with (go_at_call 73;refine c1.mono ?_;clear c1;rintro e w1 ⟨g,rfl,hg,hr,hb⟩)
 go_ret
 exact ⟨g,rfl,hg,hr,hb⟩
end Go.Proofs.YtcgkajlehdgpoaaGreatDoor
namespace Go.Proofs.YtcgkajlehdgpoaaGreatDoor
open Go.RowKit
theorem HTab.keep {w w':World} (h:HTab w cubeK squareK) (hb:Below w.heap.size w w'):HTab w' cubeK squareK:=h.below hb h.size
theorem lbT0 (suite label:List Nat) (X:Nat→Nat) (m:Nat) (t:Nat→Nat):catL (lbT suite label 0 X m t)=catL (lxT suite label m t):=by
 funext j
 show cat 0 X (catL (lxT suite label m t)) j=_
 unfold cat
 rw [if_neg (Nat.not_lt_zero j),Nat.sub_zero]
theorem lxT_lt {suite label:List Nat} {m:Nat} {t:Nat→Nat} (hsu:∀ x,x∈suite→x<256) (hla:∀ x,x∈label→x<256) (ht:∀ j,t j<256):∀ j,catL (lxT suite label m t) j<256:=catL_lt _ (by
 intro p hp
 simp only [lxT,List.mem_cons,List.not_mem_nil,or_false] at hp
 rcases hp with rfl | rfl | rfl | rfl
 · exact litB_lt lV1_lt
 · exact litB_lt hsu
 · exact litB_lt hla
 · exact ht)
theorem leT_lt {suite label:List Nat} {m N:Nat} {t:Nat→Nat} (hsu:∀ x,x∈suite→x<256) (hla:∀ x,x∈label→x<256) (ht:∀ j,t j<256):∀ j,catL (leT suite label m t N) j<256 :=
 cat_lt (litB_lt (by intro x hx;simp only [List.mem_cons,List.not_mem_nil,or_false] at hx;omega)) (lxT_lt hsu hla ht)
theorem row_bytes {w:World} {g n:Nat} {X:Nat→Nat} (h0:0<n) (h:RowAt .u8 w g 0 n X):BytesIn w (.slice (some ⟨g,0,none⟩) n n) n X :=
 .inr ⟨g,0,n,rfl,block_lt_of_cell (h 0 h0).1,Nat.le_refl _,fun j hj=>(h j hj).1⟩
set_option maxRecDepth 20000 in
set_option maxHeartbeats 2000000 in
theorem cextract_any (suite label:List Nat) (hsu:∀ x,x∈suite→x<256) (hla:∀ x,x∈label→x<256) (hsz:suite.length+label.length≤100) (sv tv:Value) (sn cnt m:Nat) (salt t:Nat→Nat) (hsalt:∀ j,salt j<256) (ht:∀ j,t j<256) (hsn:sn<140737488355000) (hcnt:cnt<1000000) (hm:m+300<140737488355000) (w:World) (hT:HTab w cubeK squareK) (h1:BytesIn w sv sn salt) (h2:Texts w tv cnt m t) :
 Calls Tryz.prog 29 #[.string (strL suite),sv,.string (strL label),tv] w fun e w'=>∃ s,e = .returned s∧BytesIn w' s 32 (lxN suite sn salt label m t)∧Below w.heap.size w w':=by
 have cl:=labelled_any suite label hsu hla hsz (.slice none 0 0) tv 0 cnt m lZ t (by decide) hcnt hm w (.inl ⟨none,rfl,rfl⟩) h2
 rw [lbT0,show 0+7+suite.length+label.length+m=lenL (lxT suite label m t) by show _=7+(suite.length+(label.length+(m+0)));omega] at cl
 have hL:lenL (lxT suite label m t)<2305843009213693000:=by show 7+(suite.length+(label.length+(m+0)))<_;omega
 have hx:=fun v W hb hv=>extract_any sv v sn (lenL (lxT suite label m t)) salt (catL (lxT suite label m t)) hsalt (lxT_lt hsu hla ht) (by omega) hL W (hT.keep hb) (h1.keep hb) hv
 obtain ⟨N,hN⟩:∃ N,N=lenL (lxT suite label m t):=⟨_,rfl⟩
 obtain ⟨F,hF⟩:∃ F,F=catL (lxT suite label m t):=⟨_,rfl⟩
 obtain ⟨X,hX⟩:∃ T,T=lxN suite sn salt label m t:=⟨_,rfl⟩
 have hX2:tagH (keyB sn salt) N F=X:=by rw [hX,hN,hF];rfl
 rw [←hN,←hF] at cl hx
 rw [hX2] at hx
 rw [←hX]
 generalize strL suite=su at *
 generalize strL label=lb at *
 clear hX hX2 hN hF hL h1 h2 hT
 go_enter Tryz.func29,Tryz.ntmps29
 go_wp2_with (first
  | (go_at_call 51;refine cl.mono ?_;clear cl;rintro e w4 ⟨s4,rfl,own4,b4⟩;(have x4:=hx s4 w4 b4 own4.bytesIn);clear hx)
  | (go_at_call 52;refine x4.mono ?_;clear x4;rintro e w5 ⟨g5,rfl,hg5,r5,hb5⟩))
 go_ret
 exact ⟨_,rfl,row_bytes (by decide) r5,below_next b4 hb5⟩
set_option maxRecDepth 20000 in
set_option maxHeartbeats 2000000 in
theorem cexpand_any (suite label:List Nat) (hsu:∀ x,x∈suite→x<256) (hla:∀ x,x∈label→x<256) (hsz:suite.length+label.length≤100) (pv tv:Value) (pn cnt m N:Nat) (prk t:Nat→Nat) (hN:N≤8160) (hprk:∀ j,prk j<256) (ht:∀ j,t j<256) (hpn:pn<140737488355000) (hcnt:cnt<1000000) (hm:m+300<140737488355000) (w:World) (hT:HTab w cubeK squareK) (h1:BytesIn w pv pn prk) (h2:Texts w tv cnt m t) :
 Calls Tryz.prog 28 #[.string (strL suite),pv,.int .i64 N,.string (strL label),tv] w fun e w'=>∃ s,e = .returned s∧(∃ g,s = .slice (some ⟨g,0,none⟩) N N∧w.heap.size≤g∧RowAt .u8 w' g 0 N (leN suite pn prk label m t N))∧Below w.heap.size w w':=by
 obtain ⟨xp,cp,rfl,-,-,-⟩:=h1.src
 obtain ⟨W0,hW0⟩:∃ W,W=w.alloc (.cells #[.int .u8 ((N / 256%256:Nat):Int),.int .u8 ((N%256:Nat):Int)] 5):=⟨_,rfl⟩
 have hb0:Below w.heap.size w W0:=by rw [hW0];exact (Below.refl _ _).alloc (Nat.le_refl _) _
 have hB0:BytesIn W0 (.slice (some ⟨w.heap.size,0,none⟩) 2 2) 2 (litB [N / 256%256,N%256]):=by rw [hW0];exact litB_B w [N / 256%256,N%256] (0,0)
 have cl:=labelled_any suite label hsu hla hsz _ tv 2 cnt m _ t (by decide) hcnt hm W0 hB0 (h2.keep hb0)
 rw [show 2+7+suite.length+label.length+m=lenL (leT suite label m t N) by show _=2+(7+(suite.length+(label.length+(m+0))));omega] at cl
 replace cl:Calls Tryz.prog 51 #[.string (strL suite),.slice (some ⟨w.heap.size,0,none⟩) 2 2,.string (strL label),tv] W0 fun e w'=>∃ s,e = .returned s∧Own W0.heap.size w' s (lenL (leT suite label m t N)) (catL (leT suite label m t N))∧Below W0.heap.size W0 w':=cl
 have hL:lenL (leT suite label m t N)<2305843009213692000:=by show 2+(7+(suite.length+(label.length+(m+0))))<_;omega
 have hx:=fun x c W hb hv=>expand_any xp x pn (lenL (leT suite label m t N)) cp c prk (catL (leT suite label m t N)) hprk (leT_lt hsu hla ht) (by omega) hL W (hT.keep hb) (h1.keep hb) hv N hN
 obtain ⟨LN,hLN⟩:∃ N',N'=lenL (leT suite label m t N):=⟨_,rfl⟩
 obtain ⟨F,hF⟩:∃ F,F=catL (leT suite label m t N):=⟨_,rfl⟩
 obtain ⟨X,hX⟩:∃ T,T=leN suite pn prk label m t N:=⟨_,rfl⟩
 have hX2:outF (keyB pn prk) LN F N=X:=by rw [hX,hLN,hF];rfl
 rw [←hLN,←hF] at cl hx
 rw [hX2] at hx
 rw [←hX]
 have hW:w.alloc (.cells #[.int .u8 ((N:Int) / 256),.int .u8 ((N:Int)%256)] 5)=W0:=by
  rw [hW0,show ((N / 256%256:Nat):Int)=(N:Int) / 256 by omega,show ((N%256:Nat):Int)=(N:Int)%256 by omega]
 rw [←hW] at cl
 generalize strL suite=su at *
 generalize strL label=lb at *
 rw [←hW] at hb0
 clear hX hX2 hLN hF hL h1 h2 hT hW0 hW hB0
 go_enter Tryz.func28,Tryz.ntmps28
 go_wp2_with (first
  | (go_at_call 51;refine cl.mono ?_;clear cl;rintro e w4 ⟨s4,rfl,own4,hb4⟩;(have b4:=below_next hb0 hb4);(obtain ⟨y4,d4,e4⟩:=own4.slice);subst e4;(have x4:=hx y4 d4 w4 b4 own4.bytesIn);clear hx)
  | (go_at_call 50;refine x4.mono ?_;clear x4;rintro e w5 ⟨g5,rfl,hg5,r5,hb5⟩))
 go_ret
 exact ⟨_,rfl,⟨g5,rfl,Nat.le_trans b4.size hg5,r5⟩,below_next b4 hb5⟩
end Go.Proofs.YtcgkajlehdgpoaaGreatDoor
namespace Go.Proofs.YtcgkajlehdgpoaaGreatDoor
open Go.RowKit
set_option maxRecDepth 20000 in
set_option maxHeartbeats 1000000 in
theorem rexpand_any (suite label:List Nat) (hsu:∀ x,x∈suite→x<256) (hla:∀ x,x∈label→x<256) (hsz:suite.length+label.length≤100) (sv pv iv:Value) (pn m N:Nat) (prk info:Nat→Nat) (hN:N≤8160) (hprk:∀ j,prk j<256) (hinfo:∀ j,info j<256) (hpn:pn<140737488355000) (hm:m+300<140737488355000) (w:World) (h1:BytesIn w sv suite.length (litB suite)) (h2:BytesIn w pv pn prk) (h3:BytesIn w iv m info) :
 Calls Tryz.prog 31 #[sv,pv,.string (strL label),iv,.int .i64 N] w fun e w'=>∃ s,e = .returned s∧BytesIn w' s N (leN suite pn prk label m info N)∧Below w.heap.size w w':=by
 obtain ⟨xs,cs,rfl,-,-,-⟩:=h1.src
 obtain ⟨xi,ci,rfl,-,-,-⟩:=h3.src
 obtain ⟨W0,hW0⟩:∃ W,W=w.alloc (.cells #[.int .u8 ((N / 256%256:Nat):Int),.int .u8 ((N%256:Nat):Int)] 5):=⟨_,rfl⟩
 have hb0:Below w.heap.size w W0:=by rw [hW0];exact (Below.refl _ _).alloc (Nat.le_refl _) _
 have hB0:BytesIn W0 (.slice (some ⟨w.heap.size,0,none⟩) 2 2) 2 (litB [N / 256%256,N%256]):=by rw [hW0];exact litB_B w [N / 256%256,N%256] (0,0)
 have hc:(convert 22 22 (.slice (some ⟨W0.heap.size,0,none⟩) 7 7)).run Tryz.prog (W0.alloc (.cells #[.int .u8 72,.int .u8 80,.int .u8 75,.int .u8 69,.int .u8 45,.int .u8 118,.int .u8 49] 5)) = .ok (.slice (some ⟨W0.heap.size,0,none⟩) 7 7) (W0.alloc (.cells #[.int .u8 72,.int .u8 80,.int .u8 75,.int .u8 69,.int .u8 45,.int .u8 118,.int .u8 49] 5 (7,8))):=convC W0 lV1
 have hb1:Below W0.heap.size W0 (W0.alloc (.cells #[.int .u8 72,.int .u8 80,.int .u8 75,.int .u8 69,.int .u8 45,.int .u8 118,.int .u8 49] 5 (7,8))):=(Below.refl _ _).alloc (Nat.le_refl _) _
 have hB1:BytesIn (W0.alloc (.cells #[.int .u8 72,.int .u8 80,.int .u8 75,.int .u8 69,.int .u8 45,.int .u8 118,.int .u8 49] 5 (7,8))) (.slice (some ⟨W0.heap.size,0,none⟩) 7 7) 7 (litB lV1):=litB_B W0 lV1 (7,8)
 obtain ⟨W1,hW1⟩:∃ W,W=W0.alloc (.cells #[.int .u8 72,.int .u8 80,.int .u8 75,.int .u8 69,.int .u8 45,.int .u8 118,.int .u8 49] 5 (7,8)):=⟨_,rfl⟩
 rw [←hW1] at hc hb1 hB1
 obtain ⟨c3,W2,hcl,hB2,hb2⟩:=conv_label W1 label hla
 have hb02:=below_next (below_next hb0 hb1) hb2
 have hP:=parts_list W2 [(.slice (some ⟨w.heap.size,0,none⟩) 2 2,2,litB [N / 256%256,N%256]),(.slice (some ⟨W0.heap.size,0,none⟩) 7 7,7,litB lV1),(.slice xs suite.length cs,suite.length,litB suite),(.slice (some ⟨W1.heap.size,0,none⟩) label.length c3,label.length,litB label),(.slice xi m ci,m,info)] 22 (by
  intro p hp
  simp only [List.mem_cons,List.not_mem_nil,or_false] at hp
  rcases hp with rfl | rfl | rfl | rfl | rfl
  · exact (hB0.keep hb1).keep hb2
  · exact hB1.keep hb2
  · exact h1.keep hb02
  · exact hB2
  · exact h3.keep hb02)
 have hb3:Below w.heap.size w (W2.alloc (.cells #[.slice (some ⟨w.heap.size,0,none⟩) 2 2,.slice (some ⟨W0.heap.size,0,none⟩) 7 7,.slice xs suite.length cs,.slice (some ⟨W1.heap.size,0,none⟩) label.length c3,.slice xi m ci] 22)):=hb02.alloc hb02.size _
 have hL:lenL (leT suite label m info N)=2+(7+(suite.length+(label.length+(m+0)))):=rfl
 have hlt:∀ j,catL (leT suite label m info N) j<256:=catL_lt _ (by
  intro p hp
  simp only [leT,lxT,List.mem_cons,List.not_mem_nil,or_false] at hp
  rcases hp with rfl | rfl | rfl | rfl | rfl
  · exact litB_lt (by intro x hx;simp only [List.mem_cons,List.not_mem_nil,or_false] at hx;omega)
  · exact litB_lt lV1_lt
  · exact litB_lt hsu
  · exact litB_lt hla
  · exact hinfo)
 have hj:=rjoin_any W2.heap.size 5 5 (lenL (leT suite label m info N)) (catL (leT suite label m info N)) (by rw [hL];omega) (by decide) _ hP
 have hx:=fun v W hb hv=>rExpand_any pv v pn (lenL (leT suite label m info N)) prk (catL (leT suite label m info N)) hprk hlt hpn (by rw [hL];omega) W (h2.keep hb) hv N hN
 replace hj:Calls Tryz.prog 40 #[.slice (some ⟨W2.heap.size,0,none⟩) 5 5] (W2.alloc (.cells #[.slice (some ⟨w.heap.size,0,none⟩) 2 2,.slice (some ⟨W0.heap.size,0,none⟩) 7 7,.slice xs suite.length cs,.slice (some ⟨W1.heap.size,0,none⟩) label.length c3,.slice xi m ci] 22)) _:=hj
 obtain ⟨LN,hLN⟩:∃ N',N'=lenL (leT suite label m info N):=⟨_,rfl⟩
 obtain ⟨F,hF⟩:∃ F,F=catL (leT suite label m info N):=⟨_,rfl⟩
 obtain ⟨T,hT⟩:∃ T,T=leN suite pn prk label m info N:=⟨_,rfl⟩
 have hT2:outF (keyB pn prk) LN F N=T:=by rw [hT,hLN,hF];rfl
 rw [←hLN,←hF] at hj hx
 rw [hT2] at hx
 rw [←hT]
 obtain ⟨S,hS⟩:∃ S,S=strL label:=⟨_,rfl⟩
 rw [←hS] at hcl ⊢
 have hz:W0.heap.size=w.heap.size+1:=by rw [hW0,World.size_alloc]
 have hW:w.alloc (.cells #[.int .u8 ((N:Int) / 256),.int .u8 ((N:Int)%256)] 5)=W0:=by
  rw [hW0,show ((N / 256%256:Nat):Int)=(N:Int) / 256 by omega,show ((N%256:Nat):Int)=(N:Int)%256 by omega]
 rw [hz] at hc hb3 hj
 rw [←hW] at hc
 clear hP hB0 hB1 hB2 hL hlt hLN hF hT hT2 hS hW0 hW1 hW hz hb0 hb1 hb2 h1 h3
 go_enter Tryz.func31,Tryz.ntmps31
 go_wp2_with (first
  | rw [hc]
  | rw [hcl]
  | (go_at_call 40;refine hj.mono ?_;clear hj;rintro e w4 ⟨s4,rfl,own4,hb4⟩;(have b4:=below_next hb3 hb4))
  | (go_at_call 56;refine (hx s4 _ b4 own4.bytesIn).mono ?_;clear hx;rintro e w5 ⟨s5,rfl,own5,hb5⟩))
 go_ret
 exact ⟨s5,rfl,own5,below_next b4 hb5⟩
end Go.Proofs.YtcgkajlehdgpoaaGreatDoor
