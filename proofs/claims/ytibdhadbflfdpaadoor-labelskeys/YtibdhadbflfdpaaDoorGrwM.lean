/- What the proof stands on: Grw, QCC, D1Math, D1CA, D1RB, ZAb2, D1RR, D1RN, D1CB, D1CE5, L5A, D1Pcs, D1CF, D1CK, L5B, L5C, D1RJ. -/
import Derived.Test.YtibdhadbflfdpaaDoorBaseM
import Derived.Test.YtibdhadbflfdpaaDoorHExpandM
import Derived.Test.YtibdhadbflfdpaaDoorHPlainM
import Derived.Laws.BitsAllLaws
import Derived.Lib.AppendStr
namespace Go.Proofs.YtibdhadbflfdpaaDoor
open Go.RowKit
theorem run_append_zeros_nil (w:World) (ty:TypeId) (m:Nat) (h0:0<m) (hm:m≤1000000) :
 (Builtin.append_ #[22,3] ty #[.slice none 0 0,.int .i64 m]).run Tryd.prog w =
  .ok (.slice (some ⟨w.heap.size,0,none⟩) m (grownCap w m 0 5)) (w.drew.alloc (.cells ((ints .u8 m (fun _=>0)).toArray ++ Builtin.zeroCells #[.int .u8 0] (grownCap w m 0 5 - m)) 5)):=by
 obtain ⟨i,hi,hz,hz1,hz2⟩:=info_parts Tryd.info5
 have h63':¬ (9223372036854775807<(m:Int)):=by omega
 have hw:IntKind.i64.wrap (m:Int)=m:=by simp only [IntKind.wrap_i64];omega
 have hl0:¬((m:Int)<0):=by omega
 have h48:¬ (281474976710656<(m:Int)):=by omega
 have hm0:¬(m=0):=by omega
 have hai:∀ W,Sem.run Tryd.prog (asInt (.int .i64 (m:Int))) W = .ok (m:Int) W:=fun _=>rfl
 have hc:(Value.int IntKind.u8 0).cells=#[.int .u8 0]:=rfl
 have hu:=run_underlying (P:=Tryd.prog) Tryd.underlying22
 have hu2:=run_underlying (P:=Tryd.prog) Tryd.underlying3
 have hns:¬ (281474976710656<Builtin.nextslicecap m 0):=by rw [nextslicecap_zero h0];omega
 simp [Builtin.append_,hu,hu2,sizeOf,typeInfo,zeroValue,hi,hz,hai,hw,hl0,h48,hz1,hz2,h63',Question.forced,run_firstCells_none,newRow,grownCap,hc,hm0,hns]
 rw [zeroCells_u8 m]
theorem append_zeros0 (w:World) (ty:TypeId) (m:Nat) (h0:0<m) (hm:m≤1000000) :
 ∃ g cap w',(Builtin.append_ #[22,3] ty #[.slice none 0 0,.int .i64 m]).run Tryd.prog w = .ok (.slice (some ⟨g,0,none⟩) m cap) w'∧m≤cap∧Own w.heap.size w' (.slice (some ⟨g,0,none⟩) 0 cap) 0 (fun _=>0)∧Below w.heap.size w w':=by
 have hge:=grownCap_ge w m 0 5
 have hcm:=grownCap_le_maxLen w m 0 5 (by unfold maxLen;omega)
 refine ⟨_,_,_,run_append_zeros_nil w ty m h0 hm,hge,⟨rfl,.inr ⟨w.heap.size,_,_,rfl,Nat.le_refl _,heap_alloc_new w.drew _,Nat.zero_le _,hcm,?_,rfl⟩⟩,((Below.refl _ _).drew).alloc (Nat.le_refl _) _⟩
 simp only [Array.size_append,List.size_toArray,size_zeroCells,ints_len]
 simp
 omega
theorem wpList_append_zeros0 {w:World} {ops:Array Oper} {rest:List Oper} {o:Oper} {a:Act} {Q:Exit→Act→World→Prop} (hgd:o.guard=none) (s x:Operand)
 (ho:o.op = .call { callee := .builtin .append,args:=#[s,x],argTypes:=#[22,3] }) (hs:a.eval s = .slice none 0 0) (m:Nat) (hx:a.eval x = .int .i64 m) (h0:0<m) (hm:m≤1000000)
 (h:∀ g cap w',m≤cap→Own w.heap.size w' (.slice (some ⟨g,0,none⟩) 0 cap) 0 (fun _=>0)→Below w.heap.size w w'→wpList Tryd.prog ops Q rest (a.put o.dst (.slice (some ⟨g,0,none⟩) m cap)) w'):wpList Tryd.prog ops Q (o :: rest) a w:=by
 refine wpList_plain hgd fun K hK => ?_
 obtain ⟨g,cap,w',h1,h2,h3,h4⟩:=append_zeros0 w o.type m h0 hm
 unfold Oper.wp execOp
 simp only [ho,resolve,invoke,builtin,Sem.run_bind,Sem.run_pure,Result.andThen_ok,List.map_toArray,List.map_cons,List.map_nil,hs,hx,h1]
 exact hK _ _ (h g cap w' h2 h3 h4)
set_option maxRecDepth 20000 in
set_option maxHeartbeats 4000000 in
theorem grow_any (m:Nat) (h0:0<m) (hm:m≤1000000) (w:World) :
 Calls Tryd.prog 73 #[.slice none 0 0,.int .i64 m] w fun e w'=>∃ g cap,e = .returned (.slice (some ⟨g,0,none⟩) 0 cap)∧Own w.heap.size w' (.slice (some ⟨g,0,none⟩) 0 cap) 0 (fun _=>0)∧Below w.heap.size w w':=by
 have e1:¬((m:Int)<0):=by omega
 have e2:(0:Int)<(m:Int):=by omega
 have e3:IntKind.i64.wrap ((m:Int) - 0)=(m:Int):=by simp only [IntKind.wrap_i64];omega
 have e4:IntKind.i64.wrap (m:Int)=(m:Int):=by simp only [IntKind.wrap_i64];omega
 go_enter Tryd.func73,Tryd.ntmps73
 go_wp2_with (at_builtin;refine wpList_append_zeros0 rfl (.tmp 20) (.tmp 21) rfl rfl m rfl h0 hm ?_;intro g cap w1 hcap own hb)
 go_ret
 exact ⟨g,cap,rfl,own,hb⟩
end Go.Proofs.YtibdhadbflfdpaaDoor
namespace Go.Proofs.YtibdhadbflfdpaaDoor
open Go.RowKit
set_option maxRecDepth 20000 in
set_option maxHeartbeats 8000000 in
theorem concat_parts (gp cnt m:Nat) (t:Nat→Nat) (w:World) (hP:Parts w gp cnt m t) (hcnt:cnt≤1000) (hsum:m≤1000000) (h0:0<m) :
 Calls Tryd.prog 63 #[.slice (some ⟨gp,0,none⟩) cnt cnt] w fun e w'=>∃ s,e = .returned s∧Own w.heap.size w' s m t∧Below w.heap.size w w':=by
 obtain ⟨pvs,L,p0,p1,p2⟩:=hP
 have P2:=Hid.mk' p2
 clear p2
 have hg:=grow_any m h0 hsum w
 go_enter Tryd.func63,Tryd.ntmps63
 go_wp2
 go_loopw [3,11] (fun s i wr=>∃ q T:Nat,q≤cnt∧i = .int .i64 q∧Hid (T=L q)∧s = .int .i64 T∧w=wr) (fun _ i _=>cnt - (intOf i).toNat)
 case atStart=>exact ⟨0,0,Nat.zero_le _,rfl,Hid.mk' p0.symm,rfl,rfl⟩
 case round =>
  obtain ⟨q,T,hq,rfl,HT,rfl,rfl⟩:=hrel
  by_cases hlt:q<cnt
  · obtain ⟨c1,c2,c3,c4⟩:=P2.out q hlt
    obtain ⟨xp,cp,hpv,hxn,hncp,hsrc⟩:=c4.src
    obtain ⟨n,hn⟩:∃ n,n=L (q+1) - L q:=⟨_,rfl⟩
    have hTn:T+n=L (q+1):=by have:=HT.out;omega
    have hTm:T+n≤1000000:=by omega
    have r0:w.cell? ⟨gp,q,none⟩=some (.slice xp n cp):=by rw [c1,hpv,hn]
    have hqi:(0:Int)≤(q:Int)∧(q:Int)<cnt:=by omega
    have hd:decide ((q:Int)<(cnt:Int))=true:=decide_eq_true (by omega)
    have ew:IntKind.i64.wrap ((T:Int)+(n:Int))=(T:Int)+n:=by simp only [IntKind.wrap_i64];omega
    have en:¬((T:Int)+(n:Int)<0):=by omega
    have HN:Hid (T+n=L (q+1)):=hTn
    clear hn hTn c1 c2 c3 c4 hpv hsrc hg p0 p1
    go_wp2
    go_roundw
    case rel=>exact ⟨q+1,T+n,by omega,by go_num,Hid.mk' HN.out,by simp,by first | rfl | trivial⟩
    case measure=>simp [intOf];omega
  · have hqe:q=cnt:=by omega
    subst hqe
    have hTm:T=m:=by rw [HT.out,p1]
    subst hTm
    go_wp2_with (go_at_call 73;refine hg.mono ?_;clear hg;rintro e w1 ⟨g1,cap1,rfl,own1,hb1⟩)
    have hd0:decide ((q:Int)<(q:Int))=false:=decide_eq_false (by omega)
    try rw [hd0]
    clear hd0 hlt HT
    go_loopw [6,27] (fun ns i wr=>∃ r A:Nat,r≤q∧i = .int .i64 r∧Hid (A=L r)∧Own w.heap.size wr ns A t∧Below w.heap.size w wr) (fun _ i _=>q - (intOf i).toNat)
    case atStart=>exact ⟨0,0,Nat.zero_le _,rfl,Hid.mk' p0.symm,own1.congr (fun j hj=>absurd hj (Nat.not_lt_zero j)),hb1⟩
    case round =>
     clear own1 hb1
     obtain ⟨r,A,hr,rfl,HA,own,hbw⟩:=hrel
     by_cases hlt:r<q
     · obtain ⟨c1,c2,c3,c4⟩:=P2.out r hlt
       obtain ⟨xp,cp,hpv,hxn,hncp,hsrc⟩:=c4.src
       obtain ⟨n,hn⟩:∃ n,n=L (r+1) - L r:=⟨_,rfl⟩
       have hTn:A+n=L (r+1):=by have:=HA.out;omega
       have hTm:A+n≤1000000:=by omega
       have r0:wr.cell? ⟨gp,r,none⟩=some (.slice xp n cp):=by rw [hbw.cell (p:=⟨gp,r,none⟩) (block_lt_of_cell c1),c1,hpv,hn]
       have hcg:∀ z,z<A+n→cat A t (fun j=>t (L r+j)) z=t z:=fun z hz=>by
        have:=HA.out
        unfold cat
        by_cases e:z<A
        · rw [if_pos e]
        · rw [if_neg e]
          show t (L r+(z - A))=t z
          rw [show L r+(z - A)=z by omega]
       have src:=hsrc wr hbw
       rw [←hn] at src
       obtain ⟨Y,hY⟩:∃ Y:Nat→Nat,Y=fun j=>t (L r+j):=⟨_,rfl⟩
       rw [←hY] at src hcg
       have hqi:(0:Int)≤(r:Int)∧(r:Int)<q:=by omega
       have hd:decide ((r:Int)<(q:Int))=true:=decide_eq_true (by omega)
       have hsz:=hbw.size
       have HN:Hid (A+n=L (r+1)):=hTn
       clear hn hTn c1 c2 c3 c4 hpv hsrc p0 p1 hY
       go_wp2_with (at_builtin;refine wpList_append_bytes rfl (.tmp 31) (.tmp 32) rfl w.heap.size u6 A t rfl own xp n cp Y rfl src hxn (by omega) hsz ?_;intro v6 w6 own6 grow6;(have hb6:Below w.heap.size w w6:=Own.grown hbw grow6 own (Nat.le_refl _) hsz))
       go_roundw
       case rel=>exact ⟨r+1,A+n,by omega,by go_num,Hid.mk' HN.out,own6.congr hcg,hb6⟩
       case measure=>simp [intOf];omega
     · have hqe:r=q:=by omega
       subst hqe
       have hA:=HA.out
       rw [p1] at hA
       go_wp2
       go_ret
       exact ⟨_,rfl,by rw [←hA];exact own,hbw⟩
theorem Parts.congr {w:World} {gp cnt m:Nat} {t u:Nat→Nat} (h:Parts w gp cnt m t) (e:∀ j,j<m→t j=u j):Parts w gp cnt m u:=by
 obtain ⟨pvs,L,p0,p1,p2⟩:=h
 refine ⟨pvs,L,p0,p1,fun i hi => ?_⟩
 obtain ⟨c1,c2,c3,c4⟩:=p2 i hi
 exact ⟨c1,c2,c3,c4.cong fun j hj=>e _ (by omega)⟩
theorem Parts.keep {w w':World} {gp cnt m:Nat} {t:Nat→Nat} (h:Parts w gp cnt m t) (hb:Below w.heap.size w w'):Parts w' gp cnt m t:=by
 obtain ⟨pvs,L,p0,p1,p2⟩:=h
 refine ⟨pvs,L,p0,p1,fun i hi => ?_⟩
 obtain ⟨c1,c2,c3,c4⟩:=p2 i hi
 exact ⟨(hb.cell (p:=⟨gp,i,none⟩) (block_lt_of_cell c1)).trans c1,c2,c3,c4.keep hb⟩
def Texts (w:World) (v:Value) (cnt m:Nat) (t:Nat→Nat):Prop:=(v = .slice none 0 0∧cnt=0∧m=0)∨∃ gp,v = .slice (some ⟨gp,0,none⟩) cnt cnt∧Parts w gp cnt m t
theorem Texts.keep {w w':World} {v:Value} {cnt m:Nat} {t:Nat→Nat} (h:Texts w v cnt m t) (hb:Below w.heap.size w w'):Texts w' v cnt m t:=by
 rcases h with h | ⟨gp,hv,hP⟩
 · exact .inl h
 · exact .inr ⟨gp,hv,hP.keep hb⟩
end Go.Proofs.YtibdhadbflfdpaaDoor
namespace Go.Proofs.YtibdhadbflfdpaaDoor
open Go.RowKit
def beN (n s j:Nat):Nat:=n / 2 ^ (8*(s - 1 - j))%256
theorem beN_lt (n s j:Nat):beN n s j<256:=Nat.mod_lt _ (by decide)
def lnS (n:Nat):Nat:=if n<64 then 1 else if n<16384 then 2 else 4
def lnW (n:Nat):Nat:=if n<64 then n else if n<16384 then n+16384 else n+2147483648
def lnB (n:Nat):Nat→Nat:=beN (lnW n) (lnS n)
def vcB (n:Nat) (b:Nat→Nat):Nat→Nat:=cat (lnS n) (lnB n) b
def vcL (n:Nat):Nat:=lnS n+n
theorem lnS_pos (n:Nat):0<lnS n∧lnS n≤4:=by unfold lnS;split <;> (try split) <;> omega
def szB (s:Int):Bool:=s == 1 || s == 2 || s == 4 || s == 8
def mstN (s:Nat):Nat:=if s=8 then 4611686018427387904 else 2 ^ (8*s)
structure Rd where
 at_:Nat
 e:Int
end Go.Proofs.YtibdhadbflfdpaaDoor
namespace Go.Proofs.YtibdhadbflfdpaaDoor
open Go.RowKit
def beK (n s k:Nat):Nat→Nat:=fun j=>if s≤j+k then beN n s j else 0
theorem beK_next (n s k:Nat) (hk:k<s) (j:Nat) (_hj:j<s):upd (beK n s k) (s - 1 - k) (n / 2 ^ (8*k)%256) j=beK n s (k+1) j:=by
 unfold upd beK
 by_cases h:j=s - 1 - k
 · rw [if_pos h,if_pos (by omega)]
   unfold beN
   rw [show s - 1 - j=k by omega]
 · rw [if_neg h]
   by_cases h2:s≤j+k
   · rw [if_pos h2,if_pos (by omega)]
   · rw [if_neg h2,if_neg (by omega)]
set_option maxRecDepth 20000 in
set_option maxHeartbeats 4000000 in
theorem cSplit_any (n s:Nat) (hs:s≤8) (w:World) :
 Calls Tryd.prog 30 #[.int .i64 n,.int .i64 s] w fun e w'=>∃ v,e = .returned v∧BytesIn w' v s (beN n s)∧Below w.heap.size w w':=by
 have hmk:=make_bytes w s (s:Int) rfl (by omega)
 have b0:Below w.heap.size w (w.alloc (.cells (zb s) 5)):=(Below.refl _ _).alloc (Nat.le_refl _) _
 have r0:RowAt .u8 (w.alloc (.cells (zb s) 5)) w.heap.size 0 s (beK n s 0):=(RowAt.fresh (X:=fun _=>0) (fun j hj=>zb_at s j hj)).congr fun j hj=>by
  unfold beK
  rw [if_neg (by omega)]
 obtain ⟨W,hW⟩:∃ W,W=w.alloc (.cells (zb s) 5):=⟨_,rfl⟩
 have gW:w.heap.size<W.heap.size:=by rw [hW];simp
 obtain ⟨g,hg⟩:∃ g,g=w.heap.size:=⟨_,rfl⟩
 rw [←hW] at hmk b0 r0
 rw [←hg] at hmk r0
 have hgl:w.heap.size≤g:=by omega
 have gW':g<W.heap.size:=by omega
 clear hW gW hg
 go_enter Tryd.func30,Tryd.ntmps30
 go_wp2
 go_loopw [10] (fun i wr=>∃ k:Nat,k≤s∧i = .int .i64 k∧RowAt .u8 wr g 0 s (beK n s k)∧Below w.heap.size w wr∧g<wr.heap.size) (fun i _=>s - (intOf i).toNat)
 case atStart=>exact ⟨0,Nat.zero_le _,rfl,r0,b0,gW'⟩
 case round =>
  clear r0 b0 hmk
  obtain ⟨k,hk,rfl,hr,hb,gl⟩:=hrel
  by_cases hlt:k<s
  · obtain ⟨q1,z1⟩:=hr (s - 1 - k) (by omega)
    have hst:=hr.set (i:=s - 1 - k) (by omega) (v:=((n / 2 ^ (8*k)%256:Nat):Int)) rfl
    rw [Nat.zero_add] at q1 z1 hst
    replace hst:=hst.congr fun j hj=>beK_next n s k hlt j hj
    have e1:IntKind.u8.wrap ((n:Int) / 2 ^ (8*k))=((n / 2 ^ (8*k)%256:Nat):Int):=by
     show (n:Int) / 2 ^ (8*k)%256=_
     simp
    obtain ⟨y,hy⟩:∃ y,y=n / 2 ^ (8*k)%256:=⟨_,rfl⟩
    rw [←hy] at hst e1
    obtain ⟨q,hq⟩:∃ q,q=s - 1 - k:=⟨_,rfl⟩
    rw [←hq] at q1 z1 hst
    obtain ⟨u,hu⟩:∃ u,u=beK n s k q:=⟨_,rfl⟩
    rw [←hu] at q1
    obtain ⟨sh,hsh⟩:∃ sh,sh=8*k:=⟨_,rfl⟩
    rw [←hsh] at e1
    have e2:(s:Int) - 1 - (k:Int)=(q:Int):=by omega
    have e2':IntKind.i64.wrap ((s:Int) - 1 - (k:Int))=(q:Int):=by simp only [IntKind.wrap_i64];omega
    have e2'':IntKind.i64.wrap ((s:Int) - 1)=(s:Int) - 1:=by simp only [IntKind.wrap_i64];omega
    have e3:8*(k:Int)=(sh:Int):=by omega
    have e3':IntKind.i64.wrap (8*(k:Int))=(sh:Int):=by simp only [IntKind.wrap_i64];omega
    have e4:IntKind.u64.wrap (sh:Int)=(sh:Int):=by show (sh:Int)%18446744073709551616=_;omega
    have t1:(0:Int)≤(q:Int)∧(q:Int)<(s:Int):=by omega
    have t2:(0:Int)≤(sh:Int)∧(sh:Int)<64:=by omega
    have hlt':(k:Int)<(s:Int):=by omega
    clear hy hq hu hsh hr
    go_wp2
    go_roundw
    case rel=>exact ⟨k+1,hlt,by go_num,hst,hb.setCell hgl _,by simp;exact gl⟩
    case measure=>simp [intOf];omega
  · obtain rfl:k=s:=by omega
    have hlt':¬(k:Int)<(k:Int):=by omega
    go_wp2
    go_ret
    exact ⟨_,rfl,.inr ⟨g,0,k,rfl,gl,Nat.le_refl _,fun j hj=>by rw [(hr j hj).1];unfold beK;rw [if_pos (by omega)]⟩,hb⟩
theorem cSize_any (s:Int) (w:World):Calls Tryd.prog 28 #[.int .i64 s] w fun e w'=>e = .returned (.bool (szB s))∧w'=w:=by
 by_cases h1:s=1
 · subst h1
   go_enter Tryd.func28,Tryd.ntmps28
   go_wp2
   go_ret
   exact ⟨rfl,rfl⟩
 · by_cases h2:s=2
   · subst h2
     go_enter Tryd.func28,Tryd.ntmps28
     go_wp2
     go_ret
     exact ⟨rfl,rfl⟩
   · by_cases h4:s=4
     · subst h4
       go_enter Tryd.func28,Tryd.ntmps28
       go_wp2
       go_ret
       exact ⟨rfl,rfl⟩
     · by_cases h8:s=8
       · subst h8
         go_enter Tryd.func28,Tryd.ntmps28
         go_wp2
         go_ret
         exact ⟨rfl,rfl⟩
       · go_enter Tryd.func28,Tryd.ntmps28
         go_wp2
         go_ret
         exact ⟨by simp [szB],rfl⟩
theorem cMost_any (s:Nat) (h:s=1∨s=2∨s=4∨s=8) (w:World):Calls Tryd.prog 29 #[.int .i64 (s:Int)] w fun e w'=>e = .returned (.int .i64 ((mstN s - 1:Nat):Int))∧w'=w:=by
 rcases h with rfl | rfl | rfl | rfl <;>
 · go_enter Tryd.func29,Tryd.ntmps29
   go_wp2
   go_ret
   exact ⟨rfl,rfl⟩
def lbN (k:Nat):Nat:=8*2 ^ k - 2
theorem cBits_any (k:Nat) (h:k<3) (w:World):Calls Tryd.prog 72 #[.int .i64 (k:Int)] w fun e w'=>e = .returned (.int .i64 ((lbN k:Nat):Int))∧w'=w:=by
 rcases (show k=0∨k=1∨k=2 by omega) with rfl | rfl | rfl <;>
 · go_enter Tryd.func72,Tryd.ntmps72
   go_wp2
   go_ret
   exact ⟨rfl,rfl⟩
end Go.Proofs.YtibdhadbflfdpaaDoor
namespace Go.Proofs.YtibdhadbflfdpaaDoor
open Go.RowKit
set_option maxRecDepth 20000 in
set_option maxHeartbeats 4000000 in
theorem rbytes_any (n s:Nat) (hs:s≤8) (w:World) :
 Calls Tryd.prog 61 #[.int .i64 n,.int .i64 s] w fun e w'=>∃ v,e = .returned v∧Own w.heap.size w' v s (beN n s)∧Below w.heap.size w w':=by
 have e0:IntKind.i64.wrap ((s:Int) - 1)=(s:Int) - 1:=by simp only [IntKind.wrap_i64];omega
 go_enter Tryd.func61,Tryd.ntmps61
 go_wp2
 go_loopw [5,6] (fun o i wr=>∃ k:Nat,k≤s∧i = .int .i64 ((s:Int) - 1 - (k:Int))∧(∃ xo co,o = .slice xo k co∧Own w.heap.size wr (.slice xo k co) k (beN n s))∧Below w.heap.size w wr) (fun _ i _=>(intOf i+1).toNat)
 case atStart=>exact ⟨0,Nat.zero_le _,by go_num,⟨none,0,rfl,Own.nil _ _ _⟩,Below.refl _ _⟩
 case round =>
  obtain ⟨k,hk,rfl,⟨xo,co,rfl,own⟩,hb⟩:=hrel
  by_cases hlt:k<s
  · obtain ⟨q,hq⟩:∃ q:Nat,(s:Int) - 1 - (k:Int)=(q:Int):=⟨s - 1 - k,by omega⟩
    rw [hq]
    obtain ⟨sh,hsh⟩:∃ sh,sh=8*q:=⟨_,rfl⟩
    have e1:IntKind.u8.wrap ((n:Int) / 2 ^ sh)=((beN n s k:Nat):Int):=by
     unfold beN
     rw [show s - 1 - k=q by omega,←hsh]
     show (n:Int) / 2 ^ sh%256=_
     simp
    have e3:8*(q:Int)=(sh:Int):=by omega
    have e3':IntKind.i64.wrap (8*(q:Int))=(sh:Int):=by simp only [IntKind.wrap_i64];omega
    have e4:IntKind.u64.wrap (sh:Int)=(sh:Int):=by show (sh:Int)%18446744073709551616=_;omega
    have t2:(0:Int)≤(sh:Int)∧(sh:Int)<64:=by omega
    have t3:(0:Int)≤(q:Int):=by omega
    have Hq:=Hid.mk' hq
    have F:=fun j=>beN n s j
    obtain ⟨y,hy⟩:∃ y:Int,y=((beN n s k:Nat):Int):=⟨_,rfl⟩
    rw [←hy] at e1
    have Hy:=Hid.mk' hy
    clear hq hsh hy F
    go_wp2_with (at_builtin;refine wpList_append_next rfl (.tmp 13) (.tmp 20) rfl w.heap.size _ k (beN n s) y rfl own rfl Hy.out (by omega) hb.size ?_;intro v7 w7 own7 hb7;(obtain ⟨x7,c7,hv7⟩:=own7.slice);subst hv7)
    go_roundw
    case rel=>exact ⟨k+1,hlt,congrArg (Value.int .i64) (by have:=Hq.out;omega),⟨x7,c7,rfl,own7⟩,hb.trans hb7⟩
    case measure=>simp [intOf]
  · obtain rfl:k=s:=by omega
    have t3:¬((0:Int)≤(k:Int) - 1 - (k:Int)):=by omega
    go_wp2
    go_ret
    exact ⟨_,rfl,own,hb⟩
theorem szB_cases {s:Int} (h:szB s=true):s=1∨s=2∨s=4∨s=8:=by
 unfold szB at h
 simpa [or_assoc] using h
theorem rLen11_good (n:Nat) (hn:n<1073741824) (w:World):Calls Tryd.prog 53 #[.int .i64 n] w fun e w'=>∃ v,e = .returned (.tuple #[v,.int .i64 0])∧Own w.heap.size w' v (lnS n) (lnB n)∧Below w.heap.size w w':=by
 have c:=rbytes_any (lnW n) (lnS n) (by have:=lnS_pos n;omega) w
 have h0:¬((n:Int)<0):=by omega
 have h1:¬((1073741824:Int)≤(n:Int)):=by omega
 unfold lnB
 by_cases h2:n<64
 · have e1:lnW n=n:=by unfold lnW;rw [if_pos h2]
   have e2:lnS n=1:=by unfold lnS;rw [if_pos h2]
   have h2':(n:Int)<64:=by omega
   rw [e1,e2] at c ⊢
   go_enter Tryd.func53,Tryd.ntmps53
   go_wp2_with (go_at_call 61;refine c.mono ?_;clear c;rintro e w1 ⟨v1,rfl,own1,b1⟩)
   go_ret2
   exact ⟨_,rfl,own1,b1⟩
 · have h2':¬((n:Int)<64):=by omega
   by_cases h3:n<16384
   · have e1:lnW n=n+16384:=by unfold lnW;rw [if_neg h2,if_pos h3]
     have e2:lnS n=2:=by unfold lnS;rw [if_neg h2,if_pos h3]
     have h3':(n:Int)<16384:=by omega
     have e3:((n+16384:Nat):Int)=(n:Int)+16384:=by omega
     have e4:IntKind.i64.wrap ((n:Int)+16384)=(n:Int)+16384:=by simp only [IntKind.wrap_i64];omega
     rw [e1,e2] at c ⊢
     rw [e3] at c
     generalize n+16384=q at *
     go_enter Tryd.func53,Tryd.ntmps53
     go_wp2_with (go_at_call 61;refine c.mono ?_;clear c;rintro e w1 ⟨v1,rfl,own1,b1⟩)
     go_ret2
     exact ⟨_,rfl,own1,b1⟩
   · have e1:lnW n=n+2147483648:=by unfold lnW;rw [if_neg h2,if_neg h3]
     have e2:lnS n=4:=by unfold lnS;rw [if_neg h2,if_neg h3]
     have h3':¬((n:Int)<16384):=by omega
     have e3:((n+2147483648:Nat):Int)=(n:Int)+2147483648:=by omega
     have e4:IntKind.i64.wrap ((n:Int)+2147483648)=(n:Int)+2147483648:=by simp only [IntKind.wrap_i64];omega
     rw [e1,e2] at c ⊢
     rw [e3] at c
     generalize n+2147483648=q at *
     go_enter Tryd.func53,Tryd.ntmps53
     go_wp2_with (go_at_call 61;refine c.mono ?_;clear c;rintro e w1 ⟨v1,rfl,own1,b1⟩)
     go_ret2
     exact ⟨_,rfl,own1,b1⟩
theorem rVec11_good (v:Value) (n:Nat) (b:Nat→Nat) (hn:n≤65536) (w:World) (hv:BytesIn w v n b):Calls Tryd.prog 39 #[v] w fun e w'=>∃ s,e = .returned (.tuple #[s,.int .i64 0])∧Own w.heap.size w' s (vcL n) (vcB n b)∧Below w.heap.size w w':=by
 obtain ⟨x1,c1,rfl,hxn,-,hsrc⟩:=hv.src
 have h1:¬((65536:Int)<(n:Int)):=by omega
 have c:=rLen11_good n (by omega) w
 have hp:=lnS_pos n
 unfold vcL vcB
 generalize lnS n=s at *
 generalize lnB n=B at *
 clear hv
 go_enter Tryd.func39,Tryd.ntmps39
 go_wp2_with (first
  | (go_at_call 53;refine c.mono ?_;clear c;rintro e w1 ⟨v1,rfl,own1,b1⟩;(have hs:=hsrc w1 b1);(obtain ⟨y1,d1,e1⟩:=own1.slice);subst e1)
  | (at_builtin;refine wpList_append_bytes rfl (.tmp 15) (.tmp 16) rfl w.heap.size _ s B rfl own1 x1 n c1 b rfl hs hxn (by omega) b1.size ?_;intro v2 w2 own2 g2;(have b2:=Own.grown b1 g2 own1 (Nat.le_refl _) b1.size)))
 go_ret2
 exact ⟨_,rfl,own2,b2⟩
end Go.Proofs.YtibdhadbflfdpaaDoor
namespace Go.Proofs.YtibdhadbflfdpaaDoor
open Go.RowKit
abbrev jD (n:Nat):Edge:={ on:=n,ground:=Ground.data }
abbrev jC (n:Nat):Edge:={ on:=n,ground:=Ground.chain }
abbrev jG (n:Nat):Edge:={ on:=n,ground:=Ground.guard }
abbrev oN (d:Nat) (o:Op) (t:TypeId) (p:String) (a:Array Edge):Oper:={ dst:=some d,op:=o,type:=t,pos:=p,after:=a,guard:=none }
abbrev cF1 (f:FuncId) (a:Array Operand) (t:Array TypeId):Op:=Op.call { callee:=Callee.value (Operand.func f),args:=a,argTypes:=t }
abbrev oT (k:Nat):Operand:=Operand.tmp k
theorem pS:(∀ (a:Act) (d:Nat) (v:Value),a.put (some d) v={ a with tmps:=a.tmps.setIfInBounds d v })∧(∀ (l:List Value) (i:Nat) (v:Value),l.toArray.setIfInBounds i v=(l.set i v).toArray)∧(∀ (x:Value) (l:List Value) (v:Value),(x :: l).set 0 v=v :: l)∧(∀ (x:Value) (l:List Value) (n:Nat) (v:Value),(x :: l).set (n+1) v=x :: l.set n v) :=
 ⟨fun _ _ _=>rfl,fun _ _ _=>List.setIfInBounds_toArray ..,fun _ _ _=>rfl,fun _ _ _ _=>rfl⟩
section
variable {P:Program} {md:Region.Mode} {ops:Array Oper} {Q:Exit→Act→World→Prop} {S:World→Prop} {fuel:Nat} {listed:Array Bool} {a:Act} {w:World}
theorem tkH (i:Nat) (oi:Oper) (v:Value) (hS:S w) (hy:YieldsIf P ops S oi v a)
 (h:wpAnyH P md ops Q S fuel (listed.setIfInBounds i true) (a.put oi.dst v) w) (hQ:∀ c a w,Q (.panic c) (a.put oi.dst v) w→Q (.panic c) a w:=by exact fun _ _ _ h=>h) (hi:ops[i]? = some oi:=by rfl) (hs:Region.noSelect ops=true:=by kernel_rfl) (hf:Region.free md ops listed i=true:=by kernel_rfl) (hr:(Region.ready md ops listed).contains i=true:=by kernel_rfl):wpAnyH P md ops Q S (fuel+1) listed a w :=
 wpAnyH_take hi hs hf hr hQ hy hS h
theorem bR {w:World}:Below w.heap.size w w:=Below.refl _ _
theorem ldH {V:World} {o:Oper} {g off:Nat} {cs:List Value} (h:RW V g off cs) (ty k:Nat) {d:TypeDesc} (hu:P.underlying ty=some d) (hi:(P.info? ty).map (·.size)=some cs.length) (hd:d.isRow=true:=by rfl) (hw:Region.wanted o (yielded ops a.tmps)=true:=by rfl) (ho:o.op = .load ty (.tmp k):=by rfl) (hx:a.eval (.tmp k) = .pointer (some ⟨g,off,none⟩):=by rfl):YieldsIf P ops (fun w'=>Below V.heap.size V w') o (.agg cs.toArray) a :=
 yieldsIf_load_mid hw ty _ ho g off hx cs d (fun _ hb=>(h.still hb).range) hu hd hi
theorem arC {i:Nat} {rs:List Nat} (oi:Oper) {f:FuncId} {args:Array Value} {R:Ending→World→Prop} (c:Calls P f args w R) (h:∀ e w',R e w'→∃ r,e = .returned r∧S w'∧wpAnyH P md ops Q S fuel (listed.setIfInBounds i true) (a.put oi.dst r) w') (hs:AllReadyH P md ops Q S fuel listed a w rs)
 (hi:ops[i]? = some oi:=by rfl) (hw:Region.wanted oi (yielded ops a.tmps)=true:=by rfl) (hrun:(execOp a.eval oi).run P w = .ok (.enter f args) w:=by kernel_rfl):AllReadyH P md ops Q S fuel listed a w (i :: rs):=by
 refine AllReadyH.cons hi (fun K hK => ?_) hs
 rw [if_pos hw]
 unfold Oper.wp
 rw [hrun,Oper.upon_enter]
 refine c.mono fun e w' hR => ?_
 obtain ⟨r,rfl,hS,hk⟩:=h e w' hR
 exact hK.out _ _ hS (fun _=>hk)
theorem callH (i:Nat) (oi:Oper) {f:FuncId} {args:Array Value} {R:Ending→World→Prop} (c:Calls P f args w R) (h:∀ e w',R e w'→∃ r,e = .returned r∧S w'∧wpAnyH P md ops Q S fuel (listed.setIfInBounds i true) (a.put oi.dst r) w')
 (hr:Region.ready md ops listed=[i]:=by kernel_rfl) (hi:ops[i]? = some oi:=by rfl) (hw:Region.wanted oi (yielded ops a.tmps)=true:=by rfl) (hrun:(execOp a.eval oi).run P w = .ok (.enter f args) w:=by kernel_rfl):wpAnyH P md ops Q S (fuel+1) listed a w :=
 wpAnyH_ready hr (by simp) (arC oi c h AllReadyH.nil hi hw hrun)
theorem callN (i:Nat) (oi:Oper) {f:FuncId} {args:Array Value} {R:Ending→World→Prop} (c:Calls P f args w R) (h:∀ e w',R e w'→∃ r,e = .returned r∧Below w.heap.size w w'∧wpAnyH P md ops Q (fun u=>Below w'.heap.size w' u) fuel (listed.setIfInBounds i true) (a.put oi.dst r) w')
 (hr:Region.ready md ops listed=[i]:=by kernel_rfl) (hi:ops[i]? = some oi:=by rfl) (hw:Region.wanted oi (yielded ops a.tmps)=true:=by rfl) (hrun:(execOp a.eval oi).run P w = .ok (.enter f args) w:=by kernel_rfl):wpAnyH P md ops Q (fun u=>Below w.heap.size w u) (fuel+1) listed a w :=
 callH i oi c (fun e w' hR=>by
  obtain ⟨r,he,hb,hk⟩:=h e w' hR
  exact ⟨r,he,hb,wpAnyH_narrow (fun _ hu=>below_next hb hu) _ _ _ _ hk⟩) hr hi hw hrun
theorem at_list {i:Nat} {oi:Oper} (hi:ops.toList[i]? = some oi):ops[i]? = some oi:=by rw [←Array.getElem?_toList];exact hi
theorem tg (i:Nat) (hS:S w) {oi:Oper} {v:Value} (h:wpAnyH P md ops Q S fuel (listed.setIfInBounds i true) (a.put oi.dst v) w) (hi:ops.toList[i]? = some oi:=by rfl)
 (hy:∀ w,S w→(execOp a.eval oi).run P w = .ok (.value v) w:=by intro w hSw;go_simp;try with_reducible rfl) (hw:Region.wanted oi (yielded ops a.tmps)=true:=by rfl)
 (hQ:∀ c b w,Q (.panic c) (b.put oi.dst v) w→Q (.panic c) b w:=by exact fun _ _ _ h=>h) (hs:Region.noSelect ops=true:=by kernel_rfl) (hf:Region.free md ops listed i=true:=by kernel_rfl) (hr:(Region.ready md ops listed).contains i=true:=by kernel_rfl):wpAnyH P md ops Q S (fuel+1) listed a w :=
 tkH i oi v hS (.inl ⟨hw,hy⟩) h hQ (at_list hi) hs hf hr
theorem tl (i:Nat) {V:World} {oi:Oper} {g off k:Nat} {cs:List Value} (r:RW V g off cs) (hS:Below V.heap.size V w) (ty:Nat) {d:TypeDesc} (hu:P.underlying ty=some d) (hin:(P.info? ty).map (·.size)=some cs.length)
 (h:wpAnyH P md ops Q (fun u=>Below V.heap.size V u) fuel (listed.setIfInBounds i true) (a.put oi.dst (.agg cs.toArray)) w) (hi:ops.toList[i]? = some oi:=by rfl) (ho:oi.op = .load ty (.tmp k):=by rfl)
 (hd:d.isRow=true:=by rfl) (hw:Region.wanted oi (yielded ops a.tmps)=true:=by rfl) (hx:a.eval (.tmp k) = .pointer (some ⟨g,off,none⟩):=by rfl)
 (hQ:∀ c b w,Q (.panic c) (b.put oi.dst (.agg cs.toArray)) w→Q (.panic c) b w:=by exact fun _ _ _ h=>h) (hs:Region.noSelect ops=true:=by kernel_rfl) (hf:Region.free md ops listed i=true:=by kernel_rfl) (hr:(Region.ready md ops listed).contains i=true:=by kernel_rfl):wpAnyH P md ops Q (fun u=>Below V.heap.size V u) (fuel+1) listed a w :=
 tkH i oi _ hS (ldH r ty k hu hin hd hw ho hx) h hQ (at_list hi) hs hf hr
theorem cl (i:Nat) {oi:Oper} {f:FuncId} {args:Array Value} {R:Ending→World→Prop} (c:Calls P f args w R) (h:∀ e w',R e w'→∃ r,e = .returned r∧S w'∧wpAnyH P md ops Q S fuel (listed.setIfInBounds i true) (a.put oi.dst r) w')
 (hi:ops.toList[i]? = some oi:=by rfl) (hr:Region.ready md ops listed=[i]:=by kernel_rfl) (hw:Region.wanted oi (yielded ops a.tmps)=true:=by rfl) (hrun:(execOp a.eval oi).run P w = .ok (.enter f args) w:=by kernel_rfl):wpAnyH P md ops Q S (fuel+1) listed a w :=
 callH i oi c h hr (at_list hi) hw hrun
theorem cn (i:Nat) {oi:Oper} {f:FuncId} {args:Array Value} {R:Ending→World→Prop} (c:Calls P f args w R) (h:∀ e w',R e w'→∃ r,e = .returned r∧Below w.heap.size w w'∧wpAnyH P md ops Q (fun u=>Below w'.heap.size w' u) fuel (listed.setIfInBounds i true) (a.put oi.dst r) w')
 (hi:ops.toList[i]? = some oi:=by rfl) (hr:Region.ready md ops listed=[i]:=by kernel_rfl) (hw:Region.wanted oi (yielded ops a.tmps)=true:=by rfl) (hrun:(execOp a.eval oi).run P w = .ok (.enter f args) w:=by kernel_rfl):wpAnyH P md ops Q (fun u=>Below w.heap.size w u) (fuel+1) listed a w :=
 callN i oi c h hr (at_list hi) hw hrun
theorem tk (i:Nat) (v:Value) (hS:S w) {oi:Oper} (hi:ops.toList[i]? = some oi:=by rfl) (hy:YieldsIf P ops S oi v a) (h:wpAnyH P md ops Q S fuel (listed.setIfInBounds i true) (a.put oi.dst v) w)
 (hQ:∀ c b w,Q (.panic c) (b.put oi.dst v) w→Q (.panic c) b w:=by exact fun _ _ _ h=>h) (hs:Region.noSelect ops=true:=by kernel_rfl) (hf:Region.free md ops listed i=true:=by kernel_rfl) (hr:(Region.ready md ops listed).contains i=true:=by kernel_rfl):wpAnyH P md ops Q S (fuel+1) listed a w :=
 tkH i oi v hS hy h hQ (at_list hi) hs hf hr
end
end Go.Proofs.YtibdhadbflfdpaaDoor
namespace Go.Proofs.YtibdhadbflfdpaaDoor
open Go.RowKit
def RdR (w:World) (g L:Nat) (B:Nat→Nat) (r:Rd):Prop:=∃ v,RW w g 0 [v,.int .i64 (r.at_:Int),.int .i64 r.e]∧BytesIn w v L B∧r.at_≤L
theorem RdR.keep {w w':World} {g L:Nat} {B:Nat→Nat} {r:Rd} (h:RdR w g L B r) (hb:Below w.heap.size w w'):RdR w' g L B r:=by
 obtain ⟨v,rw_,hv,ha⟩:=h
 exact ⟨v,rw_.still hb,hv.keep hb,ha⟩
theorem RdR.lt {w:World} {g L:Nat} {B:Nat→Nat} {r:Rd} (h:RdR w g L B r):g<w.heap.size:=by
 obtain ⟨_,r,_⟩:=h
 exact r.lt
end Go.Proofs.YtibdhadbflfdpaaDoor
namespace Go.Proofs.YtibdhadbflfdpaaDoor
open Go.RowKit
theorem i64_or_nat (a b:Nat) (ha:a<9223372036854775808) (hb:b<9223372036854775808):bits .or .i64 (a:Int) (b:Int)=((a ||| b:Nat):Int):=by
 have hx:a ||| b<2 ^ 63:=Nat.or_lt_two_pow (by omega) (by omega)
 show IntKind.i64.wrap ((BitVec.ofInt 64 (a:Int) ||| BitVec.ofInt 64 (b:Int)).toNat:Int)=_
 rw [BitVec.toNat_or,show (BitVec.ofInt 64 (a:Int)).toNat=a by simp;omega,show (BitVec.ofInt 64 (b:Int)).toNat=b by simp;omega]
 simp only [IntKind.wrap_i64]
 omega
end Go.Proofs.YtibdhadbflfdpaaDoor
namespace Go.Proofs.YtibdhadbflfdpaaDoor
open Go.RowKit
def knI (n:Int):Nat:=if n / 2 ^ 6=0 then 0 else if n / 2 ^ 14=0 then 1 else if n / 2 ^ 30=0 then 2 else 3
theorem knI_at (n:Int) (k:Nat) (hk:k<3) (h:n / 2 ^ lbN k=0) (hl:∀ q,q<k→¬n / 2 ^ lbN q=0):knI n=k:=by
 unfold knI
 rcases (show k=0∨k=1∨k=2 by omega) with rfl | rfl | rfl
 · exact if_pos h
 · exact (if_neg (hl 0 (by decide))).trans (if_pos h)
 · exact (if_neg (hl 0 (by decide))).trans ((if_neg (hl 1 (by decide))).trans (if_pos h))
theorem knI_none (n:Int) (hl:∀ q,q<3→¬n / 2 ^ lbN q=0):knI n=3:=by
 unfold knI
 exact (if_neg (hl 0 (by decide))).trans ((if_neg (hl 1 (by decide))).trans (if_neg (hl 2 (by decide))))
set_option maxRecDepth 20000 in
set_option maxHeartbeats 4000000 in
theorem cKind_any (n:Int) (w:World):Calls Tryd.prog 71 #[.int .i64 n] w fun e w'=>e = .returned (.int .i64 ((knI n:Nat):Int))∧w'=w:=by
 go_enter Tryd.func71,Tryd.ntmps71
 go_wp2
 go_loopw [4] (fun i wr=>∃ k:Nat,k≤3∧i = .int .i64 k∧w=wr∧∀ q,q<k→¬n / 2 ^ lbN q=0) (fun i _=>3 - (intOf i).toNat)
 case atStart=>exact ⟨0,Nat.zero_le _,rfl,rfl,fun q hq=>absurd hq (Nat.not_lt_zero _)⟩
 case round =>
  obtain ⟨k,hk,rfl,rfl,hl⟩:=hrel
  by_cases hlt:k<3
  · have cb:=cBits_any k hlt w
    have t1:(k:Int)<3:=by omega
    obtain ⟨b,hb⟩:∃ b,b=lbN k:=⟨_,rfl⟩
    have hb64:b<64:=by rw [hb];rcases (show k=0∨k=1∨k=2 by omega) with rfl | rfl | rfl <;> decide
    have t2:(0:Int)≤(b:Int)∧(b:Int)<64:=by omega
    rw [←hb] at cb
    have e4:IntKind.u64.wrap (b:Int)=(b:Int):=by show (b:Int)%18446744073709551616=_;omega
    by_cases hn:n / 2 ^ b=0
    · have hkn:knI n=k:=knI_at n k hlt (by rw [←hb];exact hn) hl
      clear hl hb
      go_wp2_with (go_at_call 72;refine cb.mono ?_;clear cb;rintro e w1 ⟨rfl,hw⟩;obtain rfl:=hw.symm)
      go_ret
      exact ⟨by rw [hkn];rfl,rfl⟩
    · have Hb:=Hid.mk' hb
      have Hl:=Hid.mk' hl
      clear hl hb
      go_wp2_with (go_at_call 72;refine cb.mono ?_;clear cb;rintro e w1 ⟨rfl,hw⟩;obtain rfl:=hw.symm)
      go_roundw
      case rel=>exact ⟨k+1,hlt,by go_num,trivial,fun q hq=>by
       by_cases e:q=k
       · subst e;rw [←Hb.out];exact hn
       · exact Hl.out q (by omega)⟩
      case measure=>simp [intOf];omega
  · obtain rfl:k=3:=by omega
    have hkn:=knI_none n hl
    clear hl
    go_wp2
    go_ret
    exact ⟨by rw [hkn];rfl,rfl⟩
theorem cNum11_range (n:Int) (s:Nat) (h:szB s=true) (hn:n<0∨(mstN s:Int)≤n) (w:World):Calls Tryd.prog 17 #[.int .i64 n,.int .i64 s] w fun e w'=>e = .returned (.tuple #[.slice none 0 0,.int .i64 11])∧Below w.heap.size w w':=by
 have c:=cSize_any s w
 rw [h] at c
 have hs:=szB_cases h
 have cm:=cMost_any s (by omega) w
 by_cases h0:n<0
 · go_enter Tryd.func17,Tryd.ntmps17
   go_wp2_with (go_at_call 28;refine c.mono ?_;clear c;rintro e w1 ⟨rfl,hw⟩;obtain rfl:=hw.symm)
   go_ret2
   exact ⟨rfl,Below.refl _ _⟩
 · have hp:0<mstN s:=by
    unfold mstN
    split
    · decide
    · exact Nat.two_pow_pos _
   obtain ⟨y,hy⟩:∃ y:Int,y=((mstN s - 1:Nat):Int):=⟨_,rfl⟩
   rw [←hy] at cm
   have t1:y<n:=by omega
   clear hy hn hs hp
   go_enter Tryd.func17,Tryd.ntmps17
   go_wp2_with (first
    | (go_at_call 28;refine c.mono ?_;clear c;rintro e w1 ⟨rfl,hw⟩;obtain rfl:=hw.symm)
    | (go_at_call 29;refine cm.mono ?_;clear cm;rintro e w1 ⟨rfl,hw⟩;obtain rfl:=hw.symm))
   go_ret2
   exact ⟨rfl,Below.refl _ _⟩
theorem cNum11_good (n s:Nat) (h:szB s=true) (hn:n<mstN s) (w:World):Calls Tryd.prog 17 #[.int .i64 n,.int .i64 s] w fun e w'=>∃ v,e = .returned (.tuple #[v,.int .i64 0])∧BytesIn w' v s (beN n s)∧Below w.heap.size w w':=by
 have c:=cSize_any s w
 rw [h] at c
 have hs:=szB_cases h
 have cm:=cMost_any s (by omega) w
 have cs:=cSplit_any n s (by omega) w
 obtain ⟨y,hy⟩:∃ y:Int,y=((mstN s - 1:Nat):Int):=⟨_,rfl⟩
 rw [←hy] at cm
 have t1:¬y<(n:Int):=by omega
 have t2:¬(n:Int)<0:=by omega
 clear hy hn hs
 go_enter Tryd.func17,Tryd.ntmps17
 go_wp2_with (first
  | (go_at_call 28;refine c.mono ?_;clear c;rintro e w1 ⟨rfl,hw⟩;obtain rfl:=hw.symm)
  | (go_at_call 29;refine cm.mono ?_;clear cm;rintro e w1 ⟨rfl,hw⟩;obtain rfl:=hw.symm)
  | (go_at_call 30;refine cs.mono ?_;clear cs;rintro e w1 ⟨v1,rfl,hv1,b1⟩))
 go_ret2
 exact ⟨v1,rfl,hv1,b1⟩
theorem cLen11_kind (n k q:Nat) (hk:k<3) (hkn:knI n=k) (hq:bits .or .i64 ((k*2 ^ lbN k:Nat):Int) (n:Int)=(q:Int)) (w:World):Calls Tryd.prog 62 #[.int .i64 n] w fun e w'=>∃ v,e = .returned (.tuple #[v,.int .i64 0])∧BytesIn w' v (2 ^ k) (beN q (2 ^ k))∧Below w.heap.size w w':=by
 have c:=cKind_any n w
 rw [hkn] at c
 clear hkn
 have cb:=cBits_any k hk w.drew
 have bd:Below w.heap.size w w.drew:=(Below.refl _ _).drew
 rcases (show k=0∨k=1∨k=2 by omega) with rfl | rfl | rfl
 · have cs:=cSplit_any q 1 (by decide) w.drew
   replace hq:bits .or .i64 (0:Int) (n:Int)=(q:Int):=hq
   clear hk
   go_enter Tryd.func62,Tryd.ntmps62
   go_wp2_with (go_at_call 71;refine c.mono ?_;clear c;rintro e w1 ⟨rfl,hw⟩;obtain rfl:=hw.symm)
   go_upto_region 4 with (fail)
   refine wp_region_held_drew (S:=fun u=>Below w.drew.heap.size w.drew u) (by kernel_rfl) (Below.refl _ _) (fun hS => ?_)
   refine tg 0 hS ?_
   (try simp only [pS])
   refine tg 1 hS ?_
   (try simp only [pS])
   refine tg 4 hS ?_
   (try simp only [pS])
   refine tg 6 hS ?_
   (try simp only [pS])
   refine tg 7 hS (v := .int .i64 1) ?_ (hy:=fun u _=>by kernel_rfl)
   (try simp only [pS])
   refine cl 2 cb ?_
   rintro e w2 ⟨rfl,hw⟩
   obtain rfl:=hw.symm
   refine ⟨_,rfl,hS,?_⟩
   (try simp only [pS])
   refine tg 3 hS (v := .int .i64 0) ?_ (hy:=fun u _=>by kernel_rfl)
   (try simp only [pS])
   refine tg 5 hS (v := .int .i64 (q:Int)) ?_ (hy := ?_)
   rotate_left
   · exact fun u _=>Eq.trans (b := .ok (.value (.int .i64 (bits .or .i64 (0:Int) (n:Int)))) u) (by kernel_rfl) (by rw [hq])
   (try simp only [pS])
   refine cn 8 cs ?_
   rintro e w3 ⟨v3,rfl,hv3,b3⟩
   refine ⟨_,rfl,b3,?_⟩
   (try simp only [pS])
   refine tg 9 (Below.refl _ _) ?_
   (try simp only [pS])
   refine tg 10 (Below.refl _ _) ?_
   (try simp only [pS])
   refine wpAnyH_done (by kernel_rfl) ?_ _
   go_wp2
   go_ret2
   exact ⟨_,rfl,hv3,below_next bd b3⟩
 · have cs:=cSplit_any q 2 (by decide) w.drew
   replace hq:bits .or .i64 (16384:Int) (n:Int)=(q:Int):=hq
   clear hk
   go_enter Tryd.func62,Tryd.ntmps62
   go_wp2_with (go_at_call 71;refine c.mono ?_;clear c;rintro e w1 ⟨rfl,hw⟩;obtain rfl:=hw.symm)
   go_upto_region 4 with (fail)
   refine wp_region_held_drew (S:=fun u=>Below w.drew.heap.size w.drew u) (by kernel_rfl) (Below.refl _ _) (fun hS => ?_)
   refine tg 0 hS ?_
   (try simp only [pS])
   refine tg 1 hS ?_
   (try simp only [pS])
   refine tg 4 hS ?_
   (try simp only [pS])
   refine tg 6 hS ?_
   (try simp only [pS])
   refine tg 7 hS (v := .int .i64 2) ?_ (hy:=fun u _=>by kernel_rfl)
   (try simp only [pS])
   refine cl 2 cb ?_
   rintro e w2 ⟨rfl,hw⟩
   obtain rfl:=hw.symm
   refine ⟨_,rfl,hS,?_⟩
   (try simp only [pS])
   refine tg 3 hS (v := .int .i64 16384) ?_ (hy:=fun u _=>by kernel_rfl)
   (try simp only [pS])
   refine tg 5 hS (v := .int .i64 (q:Int)) ?_ (hy := ?_)
   rotate_left
   · exact fun u _=>Eq.trans (b := .ok (.value (.int .i64 (bits .or .i64 (16384:Int) (n:Int)))) u) (by kernel_rfl) (by rw [hq])
   (try simp only [pS])
   refine cn 8 cs ?_
   rintro e w3 ⟨v3,rfl,hv3,b3⟩
   refine ⟨_,rfl,b3,?_⟩
   (try simp only [pS])
   refine tg 9 (Below.refl _ _) ?_
   (try simp only [pS])
   refine tg 10 (Below.refl _ _) ?_
   (try simp only [pS])
   refine wpAnyH_done (by kernel_rfl) ?_ _
   go_wp2
   go_ret2
   exact ⟨_,rfl,hv3,below_next bd b3⟩
 · have cs:=cSplit_any q 4 (by decide) w.drew
   replace hq:bits .or .i64 (2147483648:Int) (n:Int)=(q:Int):=hq
   clear hk
   go_enter Tryd.func62,Tryd.ntmps62
   go_wp2_with (go_at_call 71;refine c.mono ?_;clear c;rintro e w1 ⟨rfl,hw⟩;obtain rfl:=hw.symm)
   go_upto_region 4 with (fail)
   refine wp_region_held_drew (S:=fun u=>Below w.drew.heap.size w.drew u) (by kernel_rfl) (Below.refl _ _) (fun hS => ?_)
   refine tg 0 hS ?_
   (try simp only [pS])
   refine tg 1 hS ?_
   (try simp only [pS])
   refine tg 4 hS ?_
   (try simp only [pS])
   refine tg 6 hS ?_
   (try simp only [pS])
   refine tg 7 hS (v := .int .i64 4) ?_ (hy:=fun u _=>by kernel_rfl)
   (try simp only [pS])
   refine cl 2 cb ?_
   rintro e w2 ⟨rfl,hw⟩
   obtain rfl:=hw.symm
   refine ⟨_,rfl,hS,?_⟩
   (try simp only [pS])
   refine tg 3 hS (v := .int .i64 2147483648) ?_ (hy:=fun u _=>by kernel_rfl)
   (try simp only [pS])
   refine tg 5 hS (v := .int .i64 (q:Int)) ?_ (hy := ?_)
   rotate_left
   · exact fun u _=>Eq.trans (b := .ok (.value (.int .i64 (bits .or .i64 (2147483648:Int) (n:Int)))) u) (by kernel_rfl) (by rw [hq])
   (try simp only [pS])
   refine cn 8 cs ?_
   rintro e w3 ⟨v3,rfl,hv3,b3⟩
   refine ⟨_,rfl,b3,?_⟩
   (try simp only [pS])
   refine tg 9 (Below.refl _ _) ?_
   (try simp only [pS])
   refine tg 10 (Below.refl _ _) ?_
   (try simp only [pS])
   refine wpAnyH_done (by kernel_rfl) ?_ _
   go_wp2
   go_ret2
   exact ⟨_,rfl,hv3,below_next bd b3⟩
theorem cLen11_good (n:Nat) (hn:n<1073741824) (w:World):Calls Tryd.prog 62 #[.int .i64 n] w fun e w'=>∃ v,e = .returned (.tuple #[v,.int .i64 0])∧BytesIn w' v (lnS n) (lnB n)∧Below w.heap.size w w':=by
 unfold lnB
 by_cases h2:n<64
 · have e1:lnW n=n:=by unfold lnW;rw [if_pos h2]
   have e2:lnS n=2 ^ 0:=by unfold lnS;rw [if_pos h2]
   rw [e1,e2]
   refine cLen11_kind n 0 n (by decide) (knI_at _ 0 (by decide) (show (n:Int) / 64=0 by omega) (fun q hq=>absurd hq (Nat.not_lt_zero _))) ?_ w
   have:=i64_or_nat 0 n (by decide) (by omega)
   rw [Nat.zero_or] at this
   exact this
 · have g0:¬(n:Int) / 64=0:=by omega
   by_cases h3:n<16384
   · have e1:lnW n=n+16384:=by unfold lnW;rw [if_neg h2,if_pos h3]
     have e2:lnS n=2 ^ 1:=by unfold lnS;rw [if_neg h2,if_pos h3]
     rw [e1,e2]
     refine cLen11_kind n 1 (n+16384) (by decide) (knI_at _ 1 (by decide) (show (n:Int) / 16384=0 by omega) (fun q hq=>by
      obtain rfl:q=0:=by omega
      exact g0)) ?_ w
     have h:=Nat.two_pow_add_eq_or_of_lt (i:=14) (b:=n) h3 1
     have:=i64_or_nat 16384 n (by decide) (by omega)
     rw [←(show 16384+n=16384 ||| n from h),Nat.add_comm] at this
     exact this
   · have g1:¬(n:Int) / 16384=0:=by omega
     have e1:lnW n=n+2147483648:=by unfold lnW;rw [if_neg h2,if_neg h3]
     have e2:lnS n=2 ^ 2:=by unfold lnS;rw [if_neg h2,if_neg h3]
     rw [e1,e2]
     refine cLen11_kind n 2 (n+2147483648) (by decide) (knI_at _ 2 (by decide) (show (n:Int) / 1073741824=0 by omega) (fun q hq=>by
      rcases (show q=0∨q=1 by omega) with rfl | rfl
      · exact g0
      · exact g1)) ?_ w
     have h:=Nat.two_pow_add_eq_or_of_lt (i:=31) (b:=n) (by omega) 1
     have:=i64_or_nat 2147483648 n (by decide) (by omega)
     rw [←(show 2147483648+n=2147483648 ||| n from h),Nat.add_comm] at this
     exact this
end Go.Proofs.YtibdhadbflfdpaaDoor
namespace Go.Proofs.YtibdhadbflfdpaaDoor
open Go.RowKit
theorem parts_two (w:World) (v u:Value) (n m:Nat) (t s:Nat→Nat) (ty:TypeId) (h1:BytesIn w v n t) (h2:BytesIn w u m s):Parts (w.alloc (.cells #[v,u] ty)) w.heap.size 2 (n+m) (cat n t s):=by
 have b:=(Below.refl _ w).alloc (Nat.le_refl _) (.cells #[v,u] ty)
 refine ⟨fun i=>if i=0 then v else u,fun i=>if i=0 then 0 else if i=1 then n else n+m,rfl,rfl,fun i hi => ?_⟩
 rcases (show i=0∨i=1 by omega) with rfl | rfl
 · refine ⟨by simp,Nat.zero_le _,Nat.le_add_right _ _,?_⟩
   show BytesIn _ v (n - 0) (fun j=>cat n t s (0+j))
   rw [Nat.sub_zero]
   exact (h1.keep b).cong fun j hj=>by rw [Nat.zero_add,cat_left hj]
 · refine ⟨by simp,Nat.le_add_right _ _,Nat.le_refl _,?_⟩
   show BytesIn _ u (n+m - n) (fun j=>cat n t s (n+j))
   rw [Nat.add_sub_cancel_left]
   exact (h2.keep b).cong fun j hj=>by rw [cat_right]
theorem cVec11_size (v:Value) (n:Nat) (b:Nat→Nat) (hn:65536<n) (w:World) (hv:BytesIn w v n b):Calls Tryd.prog 54 #[v] w fun e w'=>e = .returned (.tuple #[.slice none 0 0,.int .i64 6])∧Below w.heap.size w w':=by
 obtain ⟨x1,c1,rfl,-,-,-⟩:=hv.src
 clear hv
 have t1:(65536:Int)<(n:Int):=by omega
 clear hn
 go_enter Tryd.func54,Tryd.ntmps54
 go_wp2
 go_ret2
 exact ⟨rfl,Below.refl _ _⟩
set_option maxRecDepth 20000 in
set_option maxHeartbeats 4000000 in
theorem cVec11_good (v:Value) (n:Nat) (b:Nat→Nat) (hn:n≤65536) (w:World) (hv:BytesIn w v n b):Calls Tryd.prog 54 #[v] w fun e w'=>∃ s,e = .returned (.tuple #[s,.int .i64 0])∧Own w.heap.size w' s (vcL n) (vcB n b)∧Below w.heap.size w w':=by
 have HV:=Hid.mk' hv
 obtain ⟨x1,c1,rfl,-,-,-⟩:=hv.src
 clear hv
 have cl:=cLen11_good n (by omega) w
 have hs:=lnS_pos n
 obtain ⟨z,hz⟩:∃ z:Int,z=(n:Int):=⟨_,rfl⟩
 have t1:¬(65536:Int)<(n:Int):=by omega
 have hL:vcL n≤1000000:=by unfold vcL;omega
 have h0:0<vcL n:=by unfold vcL;omega
 clear hn hz hs
 go_enter Tryd.func54,Tryd.ntmps54
 go_wp2_with (first
  | (go_at_call 62;refine cl.mono ?_;clear cl;rintro e w1 ⟨h1,rfl,hh1,b1⟩;(obtain ⟨x2,c2,e2,-,-,-⟩:=hh1.src);subst e2;(have hP:=parts_two w1 _ _ _ _ _ _ 22 hh1 (HV.out.keep b1));(have cc:=concat_parts w1.heap.size 2 (vcL n) (vcB n b) _ hP (by decide) hL h0);clear hP)
  | (go_at_call 63;refine cc.mono ?_;clear cc;rintro e w2 ⟨s,rfl,own2,b2⟩))
 go_ret2
 have ba:=below_next b1 ((Below.refl w1.heap.size w1).alloc (Nat.le_refl _) (.cells #[.slice x2 (lnS n) c2,.slice x1 n c1] 22))
 exact ⟨s,rfl,World.ownsRow.mono own2 ba.size,below_next ba b2⟩
end Go.Proofs.YtibdhadbflfdpaaDoor
namespace Go.Proofs.YtibdhadbflfdpaaDoor
open Go.RowKit
theorem conv_as (ty:TypeId) (hu:Tryd.prog.underlying ty=some .string) (w:World) (l:List Nat) (h:∀ x,x∈l→x<256):∃ c W,(convert ty 22 (.string (strL l))).run Tryd.prog w = .ok (.slice (some ⟨w.heap.size,0,none⟩) l.length c) W∧BytesIn W (.slice (some ⟨w.heap.size,0,none⟩) l.length c) l.length (litB l)∧Below w.heap.size w W:=by
 have hs:(strL l).size=l.length:=by simp [strL,ByteArray.size]
 have hr:=Lib.run_convert_string_bytes (P:=Tryd.prog) w ty 22 5 (strL l) hu Tryd.underlying22 Tryd.underlying5
 rw [hs] at hr
 refine ⟨_,_,hr,.inr ⟨w.heap.size,0,_,rfl,by rw [Lib.bytesWorld_size];exact Nat.lt_succ_self _,grownCap_ge _ _ _ _,fun j hj => ?_⟩,⟨by simp [Lib.bytesWorld,World.freeze,World.alloc,World.drew,-World.alloc_eq,-World.drew_eq],by simp [Lib.bytesWorld,World.freeze,World.alloc,World.drew,-World.alloc_eq,-World.drew_eq],by simp [Lib.bytesWorld,World.freeze,World.alloc,World.drew,-World.alloc_eq,-World.drew_eq],by rw [Lib.bytesWorld_size];exact Nat.le_succ _,fun k hk=>Lib.bytesWorld_at_old _ _ _ k hk⟩⟩
 have hx:=h _ (List.getElem_mem hj)
 have e:((strL l).data.toList.getD j 0).toNat=litB l j:=by simp [strL,litB,hj,Nat.mod_eq_of_lt hx]
 rw [Nat.zero_add,Lib.bytesWorld_cell w _ _ j (by rw [hs];exact hj),e]
theorem joined_any (gp cnt m:Nat) (t:Nat→Nat) (hcnt:cnt<1000000) (hm:m<140737488355000) (w:World) (hP:Parts w gp cnt m t) :
 Calls Tryd.prog 19 #[.slice (some ⟨gp,0,none⟩) cnt cnt] w fun e w'=>∃ s,e = .returned s∧Own w.heap.size w' s m t∧Below w.heap.size w w':=by
 obtain ⟨pvs,L,p0,p1,p2⟩:=hP
 have P2:=Hid.mk' p2
 clear p2
 go_enter Tryd.func19,Tryd.ntmps19
 go_wp2
 go_loopw [3,8] (fun o i wr=>∃ k B:Nat,k≤cnt∧Hid (B=L k)∧i = .int .i64 (k:Int)∧(∃ xo co,o = .slice xo B co∧Own w.heap.size wr (.slice xo B co) B t)∧Below w.heap.size w wr) (fun _ i _=>cnt - (intOf i).toNat)
 case atStart=>exact ⟨0,0,Nat.zero_le _,Hid.mk' p0.symm,by go_num,⟨none,0,rfl,Own.nil _ _ _⟩,Below.refl _ _⟩
 case round =>
  obtain ⟨k,B,hk,HB,rfl,⟨xo,co,rfl,own⟩,hb⟩:=hrel
  by_cases hlt:k<cnt
  · obtain ⟨c1,c2,c3,c4⟩:=P2.out k hlt
    obtain ⟨xs,cs,hp,hxn,-,hsrc⟩:=c4.src
    have hc:wr.cell? ⟨gp,k,none⟩=some (.slice xs (L (k+1) - L k) cs):=by
     rw [←hp]
     exact (hb.cell (p:=⟨gp,k,none⟩) (block_lt_of_cell c1)).trans c1
    have hs:=hsrc wr hb
    obtain ⟨D,hD⟩:∃ D,D=L (k+1) - L k:=⟨_,rfl⟩
    have hl:B+D=L (k+1):=by have:=HB.out;omega
    have hlm:B+D≤140737488355328:=by omega
    have hcg:∀ q,q<B+D→cat B t (fun j=>t (L k+j)) q=t q:=fun q hq=>by
     have:=HB.out
     unfold cat
     by_cases e:q<B
     · rw [if_pos e]
     · rw [if_neg e]
       show t (L k+(q - B))=t q
       rw [show L k+(q - B)=q by omega]
    obtain ⟨Y,hY⟩:∃ Y:Nat→Nat,Y=fun j=>t (L k+j):=⟨_,rfl⟩
    rw [←hD] at hc hs
    rw [←hY] at hs hcg
    have hki:(k:Int)<cnt:=by omega
    have Hl:Hid (B+D=L (k+1)):=hl
    clear c1 c2 c3 c4 hp hsrc hD hl hY p0 p1
    go_wp2_with (at_builtin;refine wpList_append_bytes rfl (.tmp 12) (.tmp 13) rfl w.heap.size _ B t rfl own xs D cs Y rfl hs hxn hlm hb.size ?_;intro v7 w7 own7 hg7;have hb7:=Own.grown hb hg7 own (Nat.le_refl _) hb.size)
    have own8:Own w.heap.size w7 v7 (B+D) t:=own7.congr hcg
    obtain ⟨x7,c7,hv7⟩:=own8.slice
    subst hv7
    clear own own7
    go_wp2
    go_roundw
    case rel=>exact ⟨k+1,B+D,by omega,Hid.mk' Hl.out,by go_num,⟨x7,c7,rfl,own8⟩,hb7⟩
    case measure=>show cnt - ((k:Int)+1).toNat<cnt - (k:Int).toNat;omega
  · have hqe:k=cnt:=by omega
    subst hqe
    have hB:=HB.out
    rw [p1] at hB
    subst hB
    go_wp2
    go_ret
    exact ⟨_,rfl,own,hb⟩
theorem plain_any (l:List Nat) (h:∀ x,x∈l→x<256) (w:World) :
 Calls Tryd.prog 33 #[.string (strL l)] w fun e w'=>∃ s,e = .returned s∧BytesIn w' s l.length (litB l)∧Below w.heap.size w w':=by
 obtain ⟨c,W,hc,hB,hb⟩:=conv_as 36 Tryd.underlying36 w l h
 obtain ⟨S,hS⟩:∃ S,S=strL l:=⟨_,rfl⟩
 rw [←hS] at hc ⊢
 clear hS
 go_enter Tryd.func33,Tryd.ntmps33
 go_wp2_with (rw [hc])
 go_ret
 exact ⟨_,rfl,hB,hb⟩
def lMls:List Nat:=[77,76,83,32,49,46,48,32]
theorem lMls_lt:∀ x,x∈lMls→x<256:=by decide
theorem litB_app (l r:List Nat) (j:Nat):litB (l ++ r) j=cat l.length (litB l) (litB r) j:=by
 unfold litB cat
 rw [List.getD_eq_getElem?_getD,List.getElem?_append]
 by_cases h:j<l.length
 · rw [if_pos h,if_pos h]
   exact (List.getD_eq_getElem?_getD ..).symm
 · rw [if_neg h,if_neg h]
   exact (List.getD_eq_getElem?_getD ..).symm
theorem versioned_any (l:List Nat) (h:∀ x,x∈l→x<256) (hl:l.length<140737488354000) (w:World) :
 Calls Tryd.prog 27 #[.string (strL l)] w fun e w'=>∃ s,e = .returned s∧Own w.heap.size w' s (8+l.length) (litB (lMls ++ l))∧Below w.heap.size w w':=by
 have hc:(convert 22 22 (.slice (some ⟨w.heap.size,0,none⟩) 8 8)).run Tryd.prog (w.alloc (.cells #[.int .u8 77,.int .u8 76,.int .u8 83,.int .u8 32,.int .u8 49,.int .u8 46,.int .u8 48,.int .u8 32] 5)) = .ok (.slice (some ⟨w.heap.size,0,none⟩) 8 8) (w.alloc (.cells #[.int .u8 77,.int .u8 76,.int .u8 83,.int .u8 32,.int .u8 49,.int .u8 46,.int .u8 48,.int .u8 32] 5 (8,9))):=convC w lMls
 have hb1:Below w.heap.size w (w.alloc (.cells #[.int .u8 77,.int .u8 76,.int .u8 83,.int .u8 32,.int .u8 49,.int .u8 46,.int .u8 48,.int .u8 32] 5 (8,9))):=(Below.refl _ _).alloc (Nat.le_refl _) _
 have hB1:BytesIn (w.alloc (.cells #[.int .u8 77,.int .u8 76,.int .u8 83,.int .u8 32,.int .u8 49,.int .u8 46,.int .u8 48,.int .u8 32] 5 (8,9))) (.slice (some ⟨w.heap.size,0,none⟩) 8 8) 8 (litB lMls):=litB_B w lMls (8,9)
 obtain ⟨W1,hW1⟩:∃ W,W=w.alloc (.cells #[.int .u8 77,.int .u8 76,.int .u8 83,.int .u8 32,.int .u8 49,.int .u8 46,.int .u8 48,.int .u8 32] 5 (8,9)):=⟨_,rfl⟩
 rw [←hW1] at hc hb1 hB1
 have hpl:=plain_any l h W1
 have hjo:=fun (W:World) (x:Option Addr) (c:Nat) (hB:BytesIn W (.slice (some ⟨w.heap.size,0,none⟩) 8 8) 8 (litB lMls)) (hx:BytesIn W (.slice x l.length c) l.length (litB l)) =>
  joined_any W.heap.size 2 (8+l.length) (litB (lMls ++ l)) (by decide) (by omega) _ ((parts_two W (.slice (some ⟨w.heap.size,0,none⟩) 8 8) (.slice x l.length c) 8 l.length (litB lMls) (litB l) 22 hB hx).congr (fun j _=>(litB_app lMls l j).symm))
 obtain ⟨S,hS⟩:∃ S,S=strL l:=⟨_,rfl⟩
 rw [←hS] at hpl ⊢
 clear hS hW1
 go_enter Tryd.func27,Tryd.ntmps27
 go_wp2_with (first
  | rw [hc]
  | (go_at_call 33;refine hpl.mono ?_;clear hpl;rintro e w2 ⟨s2,rfl,hB2,hb2⟩;(obtain ⟨x2,c2,hs2,-,-,-⟩:=hB2.src);subst hs2;have b2:=below_next hb1 hb2;have b3:=b2.alloc b2.size (.cells #[.slice (some ⟨w.heap.size,0,none⟩) 8 8,.slice x2 l.length c2] 22))
  | (go_at_call 19;refine (hjo w2 x2 c2 (hB1.keep hb2) hB2).mono ?_;clear hjo;rintro e w4 ⟨s4,rfl,own4,hb4⟩))
 go_ret
 exact ⟨s4,rfl,own4.lower b3.size,below_next b3 hb4⟩
end Go.Proofs.YtibdhadbflfdpaaDoor
namespace Go.Proofs.YtibdhadbflfdpaaDoor
open Go.RowKit
def sumN (pn:Nat→Nat):Nat→Nat
 | 0=>0
 | i+1=>sumN pn i+pn i
def allB (pn:Nat→Nat) (pb:Nat→Nat→Nat):Nat→Nat→Nat
 | 0=>fun _=>0
 | i+1=>cat (sumN pn i) (allB pn pb i) (pb i)
theorem sumN_le (pn:Nat→Nat) {i j:Nat} (h:i≤j):sumN pn i≤sumN pn j:=by
 induction h with
 | refl=>exact Nat.le_refl _
 | step _ ih=>exact Nat.le_trans ih (Nat.le_add_right _ _)
theorem allB_lt {pn:Nat→Nat} {pb:Nat→Nat→Nat} (h:∀ i j,pb i j<256):∀ i j,allB pn pb i j<256
 | 0,_=>Nat.zero_lt_succ _
 | i+1,j=>cat_lt (allB_lt h i) (h i) j
structure PiecesIn (w:World) (xo:Option Addr) (cnt:Nat) (pv:Nat→Value) (pn:Nat→Nat) (pb:Nat→Nat→Nat):Prop where
 cell:∀ q,q<cnt→∃ lb lo,xo=some ⟨lb,lo,none⟩∧∀ i,i<cnt→w.cell? ⟨lb,lo+i,none⟩=some (pv i)
 each:∀ i,i<cnt→BytesIn w (pv i) (pn i) (pb i)
 byte:∀ i j,pb i j<256
theorem PiecesIn.keep {w w':World} {xo:Option Addr} {cnt:Nat} {pv:Nat→Value} {pn:Nat→Nat} {pb:Nat→Nat→Nat} (h:PiecesIn w xo cnt pv pn pb) (hb:Below w.heap.size w w'):PiecesIn w' xo cnt pv pn pb:=by
 refine ⟨fun q hq => ?_,fun i hi=>(h.each i hi).keep hb,h.byte⟩
 obtain ⟨lb,lo,rfl,hc⟩:=h.cell q hq
 exact ⟨lb,lo,rfl,fun i hi=>(hb.cell (p:=⟨lb,lo+i,none⟩) (block_lt_of_cell (hc i hi))).trans (hc i hi)⟩
def vsL (pn:Nat→Nat):Nat→Nat:=sumN (fun i=>vcL (pn i))
def vsB (pn:Nat→Nat) (pb:Nat→Nat→Nat):Nat→Nat→Nat:=allB (fun i=>vcL (pn i)) (fun i=>vcB (pn i) (pb i))
theorem vsL_le (pn:Nat→Nat):∀ n,vsL pn n≤sumN pn n+4*n
 | 0=>Nat.le_refl _
 | n+1=>by
  have h1:=vsL_le pn n
  have h2:=lnS_pos (pn n)
  show vsL pn n+(lnS (pn n)+pn n)≤sumN pn n+pn n+4*(n+1)
  omega
def bigN (pn:Nat→Nat):Nat→Bool
 | 0=>false
 | n+1=>bigN pn n || decide (65536<pn n)
end Go.Proofs.YtibdhadbflfdpaaDoor
namespace Go.Proofs.YtibdhadbflfdpaaDoor
open Go.RowKit
theorem bigN_up {pn:Nat→Nat}:∀ {n m},n≤m→bigN pn n=true→bigN pn m=true
 | n,0,h,hb=>by
  obtain rfl:n=0:=by omega
  exact hb
 | n,m+1,h,hb=>by
  by_cases e:n=m+1
  · subst e;exact hb
  · show (bigN pn m || _)=true
    rw [bigN_up (by omega:n≤m) hb];rfl
set_option maxRecDepth 20000 in
set_option maxHeartbeats 4000000 in
theorem cVecs_any (xo:Option Addr) (cnt cap:Nat) (pv:Nat→Value) (pn:Nat→Nat) (pb:Nat→Nat→Nat) (hcnt:cnt≤1048576) (hsum:sumN pn cnt≤1048576) (w:World) (hP:PiecesIn w xo cnt pv pn pb) :
 Calls Tryd.prog 40 #[.slice xo cnt cap] w fun e w'=>((bigN pn cnt=true∧e = .returned (.tuple #[.slice none 0 0,.int .i64 6]))∨(bigN pn cnt=false∧∃ v,e = .returned (.tuple #[v,.int .i64 0])∧Own w.heap.size w' v (vsL pn cnt) (vsB pn pb cnt)))∧Below w.heap.size w w':=by
 have hall:=vsL_le pn cnt
 go_enter Tryd.func40,Tryd.ntmps40
 go_wp2
 go_loopw [4,11] (fun al i wr=>∃ q:Nat,q≤cnt∧i = .int .i64 q∧(∃ xa ca,al = .slice xa (vsL pn q) ca∧Own w.heap.size wr (.slice xa (vsL pn q) ca) (vsL pn q) (vsB pn pb q))∧bigN pn q=false∧Below w.heap.size w wr) (fun _ i _=>cnt - (intOf i).toNat)
 case atStart=>exact ⟨0,Nat.zero_le _,rfl,⟨none,0,rfl,Own.nil _ _ _⟩,rfl,Below.refl _ _⟩
 case round =>
  obtain ⟨q,hq,rfl,⟨xa,ca,rfl,own⟩,hbg,hb⟩:=hrel
  by_cases hlt:q<cnt
  · obtain ⟨lb,lo,rfl,hcell⟩:=(hP.keep hb).cell q hlt
    have hBq:=(hP.keep hb).each q hlt
    have hc0:=hcell q hlt
    have hqi:(0:Int)≤(q:Int)∧(q:Int)<cnt:=by omega
    have hq1:(q:Int)<(cnt:Int):=by omega
    by_cases hz:65536<pn q
    · have hv:=cVec11_size (pv q) (pn q) (pb q) hz wr hBq
      have hB1:bigN pn cnt=true:=bigN_up hlt (by show (bigN pn q || decide (65536<pn q))=true;rw [decide_eq_true hz,Bool.or_true])
      obtain ⟨vv,hvv⟩:∃ vv,vv=pv q:=⟨_,rfl⟩
      rw [←hvv] at hv hc0
      clear hvv hBq hcell hP hz own hbg
      go_wp2_with (go_at_call 54;refine hv.mono ?_;clear hv;rintro e w1 ⟨rfl,b1⟩)
      go_ret2
      exact ⟨.inl ⟨hB1,rfl⟩,below_next hb b1⟩
    have hv:=cVec11_good (pv q) (pn q) (pb q) (by omega) wr hBq
    have hbg2:bigN pn (q+1)=false:=by show (bigN pn q || decide (65536<pn q))=false;rw [hbg,decide_eq_false hz];rfl
    have HN:Hid (vsL pn (q+1)=vsL pn q+vcL (pn q)∧vsB pn pb (q+1)=cat (vsL pn q) (vsB pn pb q) (vcB (pn q) (pb q))):=Hid.mk' ⟨rfl,rfl⟩
    have hle:vsL pn (q+1)≤vsL pn cnt:=sumN_le _ hlt
    rw [HN.out.1] at hle
    obtain ⟨T,hT⟩:∃ T,T=vsL pn q:=⟨_,rfl⟩
    obtain ⟨F,hF⟩:∃ F,F=vsB pn pb q:=⟨_,rfl⟩
    obtain ⟨m,hm⟩:∃ m,m=vcL (pn q):=⟨_,rfl⟩
    obtain ⟨G,hG⟩:∃ G,G=vcB (pn q) (pb q):=⟨_,rfl⟩
    obtain ⟨vv,hvv⟩:∃ vv,vv=pv q:=⟨_,rfl⟩
    rw [←hT,←hF,←hm,←hG] at HN
    rw [←hT,←hm] at hle
    rw [←hT,←hF] at own
    rw [←hm,←hG,←hvv] at hv
    rw [←hvv] at hc0
    rw [←hT]
    have hTm:T+m≤140737488355328:=by omega
    clear hT hF hm hG hvv hBq hcell hP hle hz hbg
    go_wp2_with (first
     | (go_at_call 54;refine hv.mono ?_;clear hv;rintro e w1 ⟨s1,rfl,own1,b1⟩;(obtain ⟨x1,c1,hs1,hxn1,hc1,hsrc1⟩:=(BytesIn.of_own own1).src);subst hs1;have hsrc:=hsrc1 w1 (Below.refl _ _);have ownW:=own.below b1;have hbw1:=below_next hb b1)
     | (at_builtin;refine wpList_append_bytes rfl (.tmp 23) (.tmp 24) rfl w.heap.size _ T F rfl ownW x1 m c1 G rfl hsrc hxn1 hTm hbw1.size ?_;intro v2 w2 own2 grow2;have hbw2:=Own.grown hbw1 grow2 ownW (Nat.le_refl _) hbw1.size;(obtain ⟨x2,c2,hv2⟩:=own2.slice);subst hv2))
    go_roundw
    case rel=>exact ⟨q+1,hlt,by go_num,⟨x2,c2,by rw [HN.out.1],by rw [HN.out.1,HN.out.2];exact own2⟩,hbg2,hbw2⟩
    case measure=>simp [intOf];omega
  · obtain rfl:q=cnt:=by omega
    have hq1:¬(q:Int)<(q:Int):=by omega
    go_wp2
    go_ret2
    exact ⟨⟨_,rfl,own⟩,hb⟩
end Go.Proofs.YtibdhadbflfdpaaDoor
namespace Go.Proofs.YtibdhadbflfdpaaDoor
open Go.RowKit
theorem cVecs_good (xo:Option Addr) (cnt cap:Nat) (pv:Nat→Value) (pn:Nat→Nat) (pb:Nat→Nat→Nat) (hbig:bigN pn cnt=false) (hcnt:cnt≤1048576) (hsum:sumN pn cnt≤1048576) (w:World) (hP:PiecesIn w xo cnt pv pn pb) :
 Calls Tryd.prog 40 #[.slice xo cnt cap] w fun e w'=>∃ v,e = .returned (.tuple #[v,.int .i64 0])∧Own w.heap.size w' v (vsL pn cnt) (vsB pn pb cnt)∧Below w.heap.size w w' :=
 (cVecs_any xo cnt cap pv pn pb hcnt hsum w hP).mono fun e w' ⟨h,b⟩=>h.elim (fun h=>by rw [hbig] at h;cases h.1) (fun ⟨_,v,h1,h2⟩=>⟨v,h1,h2,b⟩)
end Go.Proofs.YtibdhadbflfdpaaDoor
namespace Go.Proofs.YtibdhadbflfdpaaDoor
open Go.RowKit
def pn2 (a b:Nat):Nat→Nat:=fun i=>if i=0 then a else b
def pb2 (A B:Nat→Nat):Nat→Nat→Nat:=fun i=>if i=0 then A else B
def v2L (a b:Nat):Nat:=vsL (pn2 a b) 2
def v2B (a:Nat) (A:Nat→Nat) (b:Nat) (B:Nat→Nat):Nat→Nat:=vsB (pn2 a b) (pb2 A B) 2
theorem v2L_le (a b:Nat):v2L a b≤a+b+8:=by
 have h:=vsL_le (pn2 a b) 2
 have e:sumN (pn2 a b) 2=0+a+b:=rfl
 unfold v2L
 omega
theorem v2B_lt {a b:Nat} {A B:Nat→Nat} (hA:∀ j,A j<256) (hB:∀ j,B j<256) (j:Nat):v2B a A b B j<256 :=
 allB_lt (pb:=fun i=>vcB (pn2 a b i) (pb2 A B i)) (fun i j=>cat_lt (fun j=>beN_lt _ _ j) (fun j=>by unfold pb2;split;exact hA j;exact hB j) j) 2 j
theorem pieces_two (w:World) (v u:Value) (a b:Nat) (A B:Nat→Nat) (ty:TypeId) (h1:BytesIn w v a A) (h2:BytesIn w u b B) (hA:∀ j,A j<256) (hB:∀ j,B j<256):PiecesIn (w.alloc (.cells #[v,u] ty)) (some ⟨w.heap.size,0,none⟩) 2 (fun i=>if i=0 then v else u) (pn2 a b) (pb2 A B):=by
 have b0:=(Below.refl _ w).alloc (Nat.le_refl _) (.cells #[v,u] ty)
 refine ⟨fun q _=>⟨w.heap.size,0,rfl,fun i hi => ?_⟩,fun i hi => ?_,fun i j=>by unfold pb2;split;exact hA j;exact hB j⟩
 · rcases (show i=0∨i=1 by omega) with rfl | rfl
   · simp
   · simp
 · rcases (show i=0∨i=1 by omega) with rfl | rfl
   · exact h1.keep b0
   · exact h2.keep b0
theorem cVecs_two (w:World) (v u:Value) (a b:Nat) (A B:Nat→Nat) (h1:BytesIn w v a A) (h2:BytesIn w u b B) (hA:∀ j,A j<256) (hB:∀ j,B j<256) (ha:a≤65536) (hb:b≤65536) :
 Calls Tryd.prog 40 #[.slice (some ⟨w.heap.size,0,none⟩) 2 2] (w.alloc (.cells #[v,u] 22)) fun e w'=>∃ s,e = .returned (.tuple #[s,.int .i64 0])∧Own (w.heap.size+1) w' s (v2L a b) (v2B a A b B)∧Below (w.heap.size+1) (w.alloc (.cells #[v,u] 22)) w':=by
 have hbig:bigN (pn2 a b) 2=false:=by simp [bigN,pn2];omega
 have h:=cVecs_good (some ⟨w.heap.size,0,none⟩) 2 2 _ (pn2 a b) (pb2 A B) hbig (by decide) (by show 0+a+b≤_;omega) _ (pieces_two w v u a b A B 22 h1 h2 hA hB)
 rw [World.size_alloc] at h
 unfold v2L v2B
 exact h
theorem strL_size (l:List Nat):(strL l).size=l.length:=by simp [strL,ByteArray.size]
theorem mls_lt {l:List Nat} (h:∀ x,x∈l→x<256):∀ x,x∈lMls ++ l→x<256:=by
 intro x hx
 rcases List.mem_append.1 hx with h1 | h1
 · exact lMls_lt x h1
 · exact h x h1
theorem ahead_versioned (l:List Nat) (h:∀ x,x∈l→x<256) (hl:l.length≤65528) (v:Value) (n:Nat) (bs:Nat→Nat) (hbs:∀ j,bs j<256) (hn:n≤65528) (w:World) (hv:BytesIn w v n bs) :
 Calls Tryd.prog 26 #[.string (strL l),.func (.func 27) #[.string (strL l)] #[],v] w fun e w'=>∃ s,e = .returned (.tuple #[s,.int .i64 0])∧Own w.heap.size w' s (v2L (8+l.length) n) (v2B (8+l.length) (litB (lMls ++ l)) n bs)∧Below w.heap.size w w':=by
 obtain ⟨xv,cv,rfl,-,-,-⟩:=hv.src
 have hpl:=versioned_any l h (by omega) w
 have hve:=fun (W:World) (x:Option Addr) (c:Nat) (hb:Below w.heap.size w W) (hx:BytesIn W (.slice x (8+l.length) c) (8+l.length) (litB (lMls ++ l))) =>
  cVecs_two W (.slice x (8+l.length) c) (.slice xv n cv) (8+l.length) n (litB (lMls ++ l)) bs hx (hv.keep hb) (litB_lt (mls_lt h)) hbs (by omega) (by omega)
 have hsz:=strL_size l
 obtain ⟨S,hS⟩:∃ S,S=strL l:=⟨_,rfl⟩
 rw [←hS] at hpl hsz ⊢
 obtain ⟨T,hT⟩:∃ T,T=v2L (8+l.length) n:=⟨_,rfl⟩
 obtain ⟨F,hF⟩:∃ F,F=v2B (8+l.length) (litB (lMls ++ l)) n bs:=⟨_,rfl⟩
 rw [←hT,←hF] at hve ⊢
 obtain ⟨K,hK⟩:∃ K,K=(8+l.length):=⟨_,rfl⟩
 rw [←hK] at hpl hve
 have h1:¬(65528:Int)<(S.size:Int):=by rw [hsz];omega
 have h2:¬(65528:Int)<(n:Int):=by omega
 clear hS hT hF hK hsz
 go_enter Tryd.func26,Tryd.ntmps26
 go_wp2_with (first
  | (go_at_call 27;refine hpl.mono ?_;clear hpl;rintro e w2 ⟨s2,rfl,hB2,hb2⟩;have hB2:=hB2.bytesIn;(obtain ⟨x2,c2,hs2,-,-,-⟩:=hB2.src);subst hs2;have b3:=hb2.alloc hb2.size (.cells #[.slice x2 K c2,.slice xv n cv] 22))
  | (go_at_call 40;refine (hve w2 x2 c2 hb2 hB2).mono ?_;clear hve;rintro e w4 ⟨s4,rfl,own4,hb4⟩))
 go_ret2
 exact ⟨s4,rfl,own4.lower (Nat.le_succ_of_le hb2.size),below_next b3 (by rw [World.size_alloc];exact hb4)⟩
theorem ahead_versioned_long (l:List Nat) (v:Value) (n:Nat) (bs:Nat→Nat) (hn:65528<l.length∨65528<n) (w:World) (hv:BytesIn w v n bs) :
 Calls Tryd.prog 26 #[.string (strL l),.func (.func 27) #[.string (strL l)] #[],v] w fun e w'=>e = .returned (.tuple #[.slice none 0 0,.int .i64 6])∧w'=w:=by
 obtain ⟨xv,cv,rfl,-,-,-⟩:=hv.src
 have hsz:=strL_size l
 obtain ⟨S,hS⟩:∃ S,S=strL l:=⟨_,rfl⟩
 rw [←hS] at hsz ⊢
 by_cases hc:65528<l.length
 · have h1:(65528:Int)<(S.size:Int):=by rw [hsz];omega
   clear hS hsz hv hn
   go_enter Tryd.func26,Tryd.ntmps26
   go_wp2
   go_ret2
   exact ⟨rfl,rfl⟩
 · have h1:¬(65528:Int)<(S.size:Int):=by rw [hsz];omega
   have h2:(65528:Int)<(n:Int):=by omega
   clear hS hsz hv hn
   go_enter Tryd.func26,Tryd.ntmps26
   go_wp2
   go_ret2
   exact ⟨rfl,rfl⟩
theorem labelled_good (l:List Nat) (h:∀ x,x∈l→x<256) (hl:l.length≤65528) (v:Value) (n:Nat) (bs:Nat→Nat) (hbs:∀ j,bs j<256) (hn:n≤65528) (w:World) (hv:BytesIn w v n bs) :
 Calls Tryd.prog 16 #[.string (strL l),v] w fun e w'=>∃ s,e = .returned (.tuple #[s,.int .i64 0])∧Own w.heap.size w' s (v2L (8+l.length) n) (v2B (8+l.length) (litB (lMls ++ l)) n bs)∧Below w.heap.size w w':=by
 have ha:=ahead_versioned l h hl v n bs hbs hn w hv
 obtain ⟨S,hS⟩:∃ S,S=strL l:=⟨_,rfl⟩
 obtain ⟨T,hT⟩:∃ T,T=v2L (8+l.length) n:=⟨_,rfl⟩
 obtain ⟨F,hF⟩:∃ F,F=v2B (8+l.length) (litB (lMls ++ l)) n bs:=⟨_,rfl⟩
 rw [←hS,←hT,←hF] at ha ⊢
 clear hS hT hF hv
 go_enter Tryd.func16,Tryd.ntmps16
 go_wp2_with (go_at_call 26;refine ha.mono ?_;clear ha;rintro e w2 ⟨s2,rfl,own2,hb2⟩)
 go_ret2
 exact ⟨s2,rfl,own2,hb2⟩
theorem labelled_long (l:List Nat) (v:Value) (n:Nat) (bs:Nat→Nat) (hn:65528<l.length∨65528<n) (w:World) (hv:BytesIn w v n bs) :
 Calls Tryd.prog 16 #[.string (strL l),v] w fun e w'=>e = .returned (.tuple #[.slice none 0 0,.int .i64 6])∧w'=w:=by
 have ha:=ahead_versioned_long l v n bs hn w hv
 obtain ⟨S,hS⟩:∃ S,S=strL l:=⟨_,rfl⟩
 rw [←hS] at ha ⊢
 clear hS hv hn
 go_enter Tryd.func16,Tryd.ntmps16
 go_wp2_with (go_at_call 26;refine ha.mono ?_;clear ha;rintro e w2 ⟨rfl,rfl⟩)
 go_ret2
 exact ⟨rfl,rfl⟩
theorem ahead_plain (l:List Nat) (h:∀ x,x∈l→x<256) (hl:l.length≤65528) (v:Value) (n:Nat) (bs:Nat→Nat) (hbs:∀ j,bs j<256) (hn:n≤65528) (w:World) (hv:BytesIn w v n bs) :
 Calls Tryd.prog 26 #[.string (strL l),.func (.func 33) #[.string (strL l)] #[],v] w fun e w'=>∃ s,e = .returned (.tuple #[s,.int .i64 0])∧Own w.heap.size w' s (v2L l.length n) (v2B l.length (litB l) n bs)∧Below w.heap.size w w':=by
 obtain ⟨xv,cv,rfl,-,-,-⟩:=hv.src
 have hpl:=plain_any l h  w
 have hve:=fun (W:World) (x:Option Addr) (c:Nat) (hb:Below w.heap.size w W) (hx:BytesIn W (.slice x l.length c) l.length (litB l)) =>
  cVecs_two W (.slice x l.length c) (.slice xv n cv) l.length n (litB l) bs hx (hv.keep hb) (litB_lt h) hbs (by omega) (by omega)
 have hsz:=strL_size l
 obtain ⟨S,hS⟩:∃ S,S=strL l:=⟨_,rfl⟩
 rw [←hS] at hpl hsz ⊢
 obtain ⟨T,hT⟩:∃ T,T=v2L l.length n:=⟨_,rfl⟩
 obtain ⟨F,hF⟩:∃ F,F=v2B l.length (litB l) n bs:=⟨_,rfl⟩
 rw [←hT,←hF] at hve ⊢
 obtain ⟨K,hK⟩:∃ K,K=l.length:=⟨_,rfl⟩
 rw [←hK] at hpl hve
 have h1:¬(65528:Int)<(S.size:Int):=by rw [hsz];omega
 have h2:¬(65528:Int)<(n:Int):=by omega
 clear hS hT hF hK hsz
 go_enter Tryd.func26,Tryd.ntmps26
 go_wp2_with (first
  | (go_at_call 33;refine hpl.mono ?_;clear hpl;rintro e w2 ⟨s2,rfl,hB2,hb2⟩;(obtain ⟨x2,c2,hs2,-,-,-⟩:=hB2.src);subst hs2;have b3:=hb2.alloc hb2.size (.cells #[.slice x2 K c2,.slice xv n cv] 22))
  | (go_at_call 40;refine (hve w2 x2 c2 hb2 hB2).mono ?_;clear hve;rintro e w4 ⟨s4,rfl,own4,hb4⟩))
 go_ret2
 exact ⟨s4,rfl,own4.lower (Nat.le_succ_of_le hb2.size),below_next b3 (by rw [World.size_alloc];exact hb4)⟩
theorem ahead_plain_long (l:List Nat) (v:Value) (n:Nat) (bs:Nat→Nat) (hn:65528<l.length∨65528<n) (w:World) (hv:BytesIn w v n bs) :
 Calls Tryd.prog 26 #[.string (strL l),.func (.func 33) #[.string (strL l)] #[],v] w fun e w'=>e = .returned (.tuple #[.slice none 0 0,.int .i64 6])∧w'=w:=by
 obtain ⟨xv,cv,rfl,-,-,-⟩:=hv.src
 have hsz:=strL_size l
 obtain ⟨S,hS⟩:∃ S,S=strL l:=⟨_,rfl⟩
 rw [←hS] at hsz ⊢
 by_cases hc:65528<l.length
 · have h1:(65528:Int)<(S.size:Int):=by rw [hsz];omega
   clear hS hsz hv hn
   go_enter Tryd.func26,Tryd.ntmps26
   go_wp2
   go_ret2
   exact ⟨rfl,rfl⟩
 · have h1:¬(65528:Int)<(S.size:Int):=by rw [hsz];omega
   have h2:(65528:Int)<(n:Int):=by omega
   clear hS hsz hv hn
   go_enter Tryd.func26,Tryd.ntmps26
   go_wp2
   go_ret2
   exact ⟨rfl,rfl⟩
theorem named_good (l:List Nat) (h:∀ x,x∈l→x<256) (hl:l.length≤65528) (v:Value) (n:Nat) (bs:Nat→Nat) (hbs:∀ j,bs j<256) (hn:n≤65528) (w:World) (hv:BytesIn w v n bs) :
 Calls Tryd.prog 22 #[.string (strL l),v] w fun e w'=>∃ s,e = .returned (.tuple #[s,.int .i64 0])∧Own w.heap.size w' s (v2L l.length n) (v2B l.length (litB l) n bs)∧Below w.heap.size w w':=by
 have ha:=ahead_plain l h hl v n bs hbs hn w hv
 obtain ⟨S,hS⟩:∃ S,S=strL l:=⟨_,rfl⟩
 obtain ⟨T,hT⟩:∃ T,T=v2L l.length n:=⟨_,rfl⟩
 obtain ⟨F,hF⟩:∃ F,F=v2B l.length (litB l) n bs:=⟨_,rfl⟩
 rw [←hS,←hT,←hF] at ha ⊢
 clear hS hT hF hv
 go_enter Tryd.func22,Tryd.ntmps22
 go_wp2_with (go_at_call 26;refine ha.mono ?_;clear ha;rintro e w2 ⟨s2,rfl,own2,hb2⟩)
 go_ret2
 exact ⟨s2,rfl,own2,hb2⟩
theorem named_long (l:List Nat) (v:Value) (n:Nat) (bs:Nat→Nat) (hn:65528<l.length∨65528<n) (w:World) (hv:BytesIn w v n bs) :
 Calls Tryd.prog 22 #[.string (strL l),v] w fun e w'=>e = .returned (.tuple #[.slice none 0 0,.int .i64 6])∧w'=w:=by
 have ha:=ahead_plain_long l v n bs hn w hv
 obtain ⟨S,hS⟩:∃ S,S=strL l:=⟨_,rfl⟩
 rw [←hS] at ha ⊢
 clear hS hv hn
 go_enter Tryd.func22,Tryd.ntmps22
 go_wp2_with (go_at_call 26;refine ha.mono ?_;clear ha;rintro e w2 ⟨rfl,rfl⟩)
 go_ret2
 exact ⟨rfl,rfl⟩
end Go.Proofs.YtibdhadbflfdpaaDoor
namespace Go.Proofs.YtibdhadbflfdpaaDoor
open Go.RowKit
def exT (l:List Nat) (n:Nat) (bs:Nat→Nat) (N:Nat):Nat→Nat:=cat 2 (beN N 2) (v2B (8+l.length) (litB (lMls ++ l)) n bs)
def exL (l:List Nat) (n:Nat):Nat:=2+v2L (8+l.length) n
def exN (sn:Nat) (ks:Nat→Nat) (l:List Nat) (n:Nat) (bs:Nat→Nat) (N:Nat):Nat→Nat:=outF (keyB sn ks) (exL l n) (exT l n bs N) N
theorem row5 {w:World} {g n:Nat} {X:Nat→Nat} (h:RowAt .u8 w g 0 n X):BytesIn w (.slice (some ⟨g,0,none⟩) n n) n X:=by
 by_cases e:n=0
 · subst e
   exact .inl ⟨_,rfl,rfl⟩
 · exact .inr ⟨g,0,n,rfl,block_lt_of_cell (h 0 (by omega)).1,Nat.le_refl _,fun j hj=>(h j hj).1⟩
theorem exT_lt (l:List Nat) (h:∀ x,x∈l→x<256) (n:Nat) (bs:Nat→Nat) (hbs:∀ j,bs j<256) (N:Nat) (j:Nat):exT l n bs N j<256 :=
 cat_lt (fun j=>beN_lt _ _ j) (v2B_lt (litB_lt (mls_lt h)) hbs) j
theorem exL_le (l:List Nat) (n:Nat) (hl:l.length≤65528) (hn:n≤65528):exL l n≤200000:=by
 have:=v2L_le (8+l.length) n
 unfold exL
 omega
theorem cExpand_good (l:List Nat) (h:∀ x,x∈l→x<256) (hl:l.length≤65528) (sv cv:Value) (sn n:Nat) (ks bs:Nat→Nat) (hks:∀ j,ks j<256) (hbs:∀ j,bs j<256) (hsn:sn<140737488355000) (hn:n≤65528) (N:Nat) (hN:N≤8160) (w:World) (hT:HTab w cubeK squareK) (h1:BytesIn w sv sn ks) (h2:BytesIn w cv n bs) :
 Calls Tryd.prog 6 #[sv,.string (strL l),cv,.int .i64 N] w fun e w'=>∃ s,e = .returned (.tuple #[s,.int .i64 0])∧BytesIn w' s N (exN sn ks l n bs N)∧Below w.heap.size w w':=by
 have hla:=labelled_good l h hl cv n bs hbs hn w h2
 have hnu:=fun W=>cNum11_good N 2 (by decide) (by show N<65536;omega) W
 have hle:=exL_le l n hl hn
 have hjo:=fun (W:World) (x y:Option Addr) (c d:Nat) (hx:BytesIn W (.slice x 2 c) 2 (beN N 2)) (hy:BytesIn W (.slice y (v2L (8+l.length) n) d) (v2L (8+l.length) n) (v2B (8+l.length) (litB (lMls ++ l)) n bs)) =>
  joined_any W.heap.size 2 (exL l n) (exT l n bs N) (by decide) (by omega) _ (parts_two W (.slice x 2 c) (.slice y (v2L (8+l.length) n) d) 2 (v2L (8+l.length) n) (beN N 2) (v2B (8+l.length) (litB (lMls ++ l)) n bs) 22 hx hy)
 obtain ⟨xs,cs,rfl,-,-,-⟩:=h1.src
 have hex:=fun (W:World) (y:Option Addr) (d:Nat) (hb:Below w.heap.size w W) (hy:BytesIn W (.slice y (exL l n) d) (exL l n) (exT l n bs N)) =>
  expand_any xs y sn (exL l n) cs d ks (exT l n bs N) hks (exT_lt l h n bs hbs N) (by omega) (by omega) W (hT.below hb hT.size) (h1.keep hb) hy N hN
 obtain ⟨S,hS⟩:∃ S,S=strL l:=⟨_,rfl⟩
 obtain ⟨T,hT1⟩:∃ T,T=v2L (8+l.length) n:=⟨_,rfl⟩
 obtain ⟨F,hF⟩:∃ F,F=v2B (8+l.length) (litB (lMls ++ l)) n bs:=⟨_,rfl⟩
 obtain ⟨L,hL⟩:∃ L,L=exL l n:=⟨_,rfl⟩
 obtain ⟨G,hG⟩:∃ G,G=exT l n bs N:=⟨_,rfl⟩
 obtain ⟨E,hE⟩:∃ E,E=outF (keyB sn ks) L G N:=⟨_,rfl⟩
 have hE2:exN sn ks l n bs N=E:=by rw [hE,hL,hG];rfl
 rw [hE2]
 rw [←hS] at hla ⊢
 rw [←hT1,←hF] at hla hjo
 rw [←hL,←hG] at hjo hex
 rw [←hE] at hex
 clear hS hT1 hF hL hG hE hE2 hle h1 h2
 go_enter Tryd.func6,Tryd.ntmps6
 go_wp2_with (first
  | (go_at_call 16;refine hla.mono ?_;clear hla;rintro e w1 ⟨s1,rfl,own1,b1⟩;have B1:=own1.bytesIn;(obtain ⟨x1,c1,hs1,-,-,-⟩:=B1.src);subst hs1)
  | (go_at_call 17;refine (hnu _).mono ?_;clear hnu;rintro e w2 ⟨s2,rfl,B2,hb2⟩;(obtain ⟨x2,c2,hs2,-,-,-⟩:=B2.src);subst hs2;have b2:=below_next b1 hb2;replace B1:=B1.keep hb2;have b3:=b2.alloc b2.size (.cells #[.slice x2 2 c2,.slice x1 T c1] 22))
  | (go_at_call 19;refine (hjo w2 x2 x1 c2 c1 B2 B1).mono ?_;clear hjo;rintro e w4 ⟨s4,rfl,own4,hb4⟩;have B4:=own4.bytesIn;(obtain ⟨x4,c4,hs4,-,-,-⟩:=B4.src);subst hs4;have b4:=below_next b3 hb4)
  | (go_at_call 18;refine (hex w4 x4 c4 b4 B4).mono ?_;clear hex;rintro e w5 ⟨g5,rfl,hg5,r5,hb5⟩))
 go_ret2
 exact ⟨_,rfl,row5 r5,below_next b4 hb5⟩
theorem cExpand_long (l:List Nat) (sv cv:Value) (n:Nat) (bs:Nat→Nat) (hn:65528<l.length∨65528<n) (N:Int) (w:World) (h2:BytesIn w cv n bs) :
 Calls Tryd.prog 6 #[sv,.string (strL l),cv,.int .i64 N] w fun e w'=>e = .returned (.tuple #[.slice none 0 0,.int .i64 6])∧w'=w:=by
 have hla:=labelled_long l cv n bs hn w h2
 obtain ⟨S,hS⟩:∃ S,S=strL l:=⟨_,rfl⟩
 rw [←hS] at hla ⊢
 clear hS hn h2
 go_enter Tryd.func6,Tryd.ntmps6
 go_wp2_with (go_at_call 16;refine hla.mono ?_;clear hla;rintro e w1 ⟨rfl,rfl⟩)
 go_ret2
 exact ⟨rfl,rfl⟩
theorem cExpand_many (l:List Nat) (h:∀ x,x∈l→x<256) (hl:l.length≤65528) (sv cv:Value) (n:Nat) (bs:Nat→Nat) (hbs:∀ j,bs j<256) (hn:n≤65528) (N:Int) (hN:N<0∨8160<N) (w:World) (h2:BytesIn w cv n bs) :
 Calls Tryd.prog 6 #[sv,.string (strL l),cv,.int .i64 N] w fun e w'=>e = .returned (.tuple #[.slice none 0 0,.int .i64 6])∧Below w.heap.size w w':=by
 have hla:=labelled_good l h hl cv n bs hbs hn w h2
 have hle:=exL_le l n hl hn
 obtain ⟨S,hS⟩:∃ S,S=strL l:=⟨_,rfl⟩
 by_cases hr:N<0∨65536≤N
 · have hnu:=fun W=>cNum11_range N 2 (by decide) (by rcases hr with h | h;exact .inl h;exact .inr h) W
   obtain ⟨T,hT1⟩:∃ T,T=v2L (8+l.length) n:=⟨_,rfl⟩
   obtain ⟨F,hF⟩:∃ F,F=v2B (8+l.length) (litB (lMls ++ l)) n bs:=⟨_,rfl⟩
   rw [←hT1,←hF] at hla
   rw [←hS] at hla ⊢
   clear hS hT1 hF hN h2 hr hle
   go_enter Tryd.func6,Tryd.ntmps6
   go_wp2_with (first
    | (go_at_call 16;refine hla.mono ?_;clear hla;rintro e w1 ⟨s1,rfl,own1,b1⟩;have B1:=own1.bytesIn;(obtain ⟨x1,c1,hs1,-,-,-⟩:=B1.src);subst hs1)
    | (go_at_call 17;refine (hnu _).mono ?_;clear hnu;rintro e w2 ⟨rfl,hb2⟩))
   go_ret2
   exact ⟨rfl,below_next b1 hb2⟩
 · obtain ⟨M,rfl⟩:∃ M:Nat,N=M:=⟨N.toNat,by omega⟩
   have hnu:=fun W=>cNum11_good M 2 (by decide) (by show M<65536;omega) W
   have hex:=fun (u v:Value) (W:World)=>expand_err u v (M:Int) hN W
   have hjo:=fun (W:World) (x y:Option Addr) (c d:Nat) (hx:BytesIn W (.slice x 2 c) 2 (beN M 2)) (hy:BytesIn W (.slice y (v2L (8+l.length) n) d) (v2L (8+l.length) n) (v2B (8+l.length) (litB (lMls ++ l)) n bs)) =>
    joined_any W.heap.size 2 (exL l n) (exT l n bs M) (by decide) (by omega) _ (parts_two W (.slice x 2 c) (.slice y (v2L (8+l.length) n) d) 2 (v2L (8+l.length) n) (beN M 2) (v2B (8+l.length) (litB (lMls ++ l)) n bs) 22 hx hy)
   obtain ⟨T,hT1⟩:∃ T,T=v2L (8+l.length) n:=⟨_,rfl⟩
   obtain ⟨F,hF⟩:∃ F,F=v2B (8+l.length) (litB (lMls ++ l)) n bs:=⟨_,rfl⟩
   obtain ⟨L,hL⟩:∃ L,L=exL l n:=⟨_,rfl⟩
   obtain ⟨G,hG⟩:∃ G,G=exT l n bs M:=⟨_,rfl⟩
   rw [←hT1,←hF] at hla hjo
   rw [←hL,←hG] at hjo
   rw [←hS] at hla ⊢
   clear hS hT1 hF hL hG hN h2 hr hle
   go_enter Tryd.func6,Tryd.ntmps6
   go_wp2_with (first
    | (go_at_call 16;refine hla.mono ?_;clear hla;rintro e w1 ⟨s1,rfl,own1,b1⟩;have B1:=own1.bytesIn;(obtain ⟨x1,c1,hs1,-,-,-⟩:=B1.src);subst hs1)
    | (go_at_call 17;refine (hnu _).mono ?_;clear hnu;rintro e w2 ⟨s2,rfl,B2,hb2⟩;(obtain ⟨x2,c2,hs2,-,-,-⟩:=B2.src);subst hs2;have b2:=below_next b1 hb2;replace B1:=B1.keep hb2;have b3:=b2.alloc b2.size (.cells #[.slice x2 2 c2,.slice x1 T c1] 22))
    | (go_at_call 19;refine (hjo w2 x2 x1 c2 c1 B2 B1).mono ?_;clear hjo;rintro e w4 ⟨s4,rfl,own4,hb4⟩;have B4:=own4.bytesIn;(obtain ⟨x4,c4,hs4,-,-,-⟩:=B4.src);subst hs4;have b4:=below_next b3 hb4)
    | (go_at_call 18;refine (hex _ _ _).mono ?_;clear hex;rintro e w5 ⟨rfl,hb5⟩))
   go_ret2
   exact ⟨rfl,below_next b4 hb5⟩
theorem nil_bytes (w:World) (b:Nat→Nat):BytesIn w (.slice none 0 0) 0 b := .inl ⟨none,rfl,rfl⟩
theorem cDerive_good5 (l:List Nat) (h:∀ x,x∈l→x<256) (hl:l.length≤65528) (sv:Value) (sn:Nat) (ks:Nat→Nat) (hks:∀ j,ks j<256) (hsn:sn<140737488355000) (w:World) (hT:HTab w cubeK squareK) (h1:BytesIn w sv sn ks) :
 Calls Tryd.prog 9 #[sv,.string (strL l)] w fun e w'=>∃ s,e = .returned s∧BytesIn w' s 32 (exN sn ks l 0 lZ 32)∧Below w.heap.size w w':=by
 have hex:=cExpand_good l h hl sv (.slice none 0 0) sn 0 ks lZ hks (fun _=>by show 0<256;decide) hsn (by decide) 32 (by decide) w hT h1 (nil_bytes w lZ)
 obtain ⟨S,hS⟩:∃ S,S=strL l:=⟨_,rfl⟩
 obtain ⟨E,hE⟩:∃ E,E=exN sn ks l 0 lZ 32:=⟨_,rfl⟩
 rw [←hS,←hE] at hex ⊢
 replace hex:Calls Tryd.prog 6 #[sv,.string S,.slice none 0 0,.int .i64 32] w _:=hex
 clear hS hE hT h1
 go_enter Tryd.func9,Tryd.ntmps9
 go_wp2_with (go_at_call 6;refine hex.mono ?_;clear hex;rintro e w1 ⟨s1,rfl,B1,b1⟩;(obtain ⟨x1,c1,hs1,-,-,-⟩:=B1.src);subst hs1)
 go_ret
 exact ⟨_,rfl,B1,b1⟩
theorem cDerive_long5 (l:List Nat) (hl:65528<l.length) (sv:Value) (w:World) :
 Calls Tryd.prog 9 #[sv,.string (strL l)] w fun e w'=>e = .returned (.slice none 0 0)∧w'=w:=by
 have hex:=cExpand_long l sv (.slice none 0 0) 0 lZ (.inl hl) 32 w (nil_bytes w lZ)
 obtain ⟨S,hS⟩:∃ S,S=strL l:=⟨_,rfl⟩
 rw [←hS] at hex ⊢
 clear hS hl
 go_enter Tryd.func9,Tryd.ntmps9
 go_wp2_with (go_at_call 6;refine hex.mono ?_;clear hex;rintro e w1 ⟨rfl,rfl⟩)
 go_ret
 exact ⟨rfl,rfl⟩
def rfN (l:List Nat) (n:Nat) (bs:Nat→Nat):Nat→Nat:=outB 32 (specS rn cubeK squareK (v2L l.length n) (v2B l.length (litB l) n bs))
theorem cRef_good (l:List Nat) (h:∀ x,x∈l→x<256) (hl:l.length≤65528) (cv:Value) (n:Nat) (bs:Nat→Nat) (hbs:∀ j,bs j<256) (hn:n≤65528) (w:World) (hT:HTab w cubeK squareK) (h2:BytesIn w cv n bs) :
 Calls Tryd.prog 11 #[.string (strL l),cv] w fun e w'=>∃ s,e = .returned s∧BytesIn w' s 32 (rfN l n bs)∧Below w.heap.size w w':=by
 have hla:=named_good l h hl cv n bs hbs hn w h2
 have hlt:=v2B_lt (a:=l.length) (b:=n) (litB_lt h) hbs
 have hle:=v2L_le l.length n
 have hsu:=fun (W:World) (y:Option Addr) (d:Nat) (hb:Below w.heap.size w W) (hy:BytesIn W (.slice y (v2L l.length n) d) (v2L l.length n) (v2B l.length (litB l) n bs)) =>
  Sum256_any cubeK squareK (.slice y (v2L l.length n) d) (v2L l.length n) (v2B l.length (litB l) n bs) hlt W (hT.below hb hT.size) hy (by omega)
 rw [hashS_spec cubeK squareK _ _ (by decide)] at hsu
 obtain ⟨S,hS⟩:∃ S,S=strL l:=⟨_,rfl⟩
 obtain ⟨E,hE⟩:∃ E,E=rfN l n bs:=⟨_,rfl⟩
 have hE2:outB 32 (specS rn cubeK squareK (v2L l.length n) (v2B l.length (litB l) n bs))=E:=hE.symm
 rw [hE2] at hsu
 rw [←hE]
 obtain ⟨T,hT1⟩:∃ T,T=v2L l.length n:=⟨_,rfl⟩
 obtain ⟨F,hF⟩:∃ F,F=v2B l.length (litB l) n bs:=⟨_,rfl⟩
 rw [←hT1,←hF] at hla hsu
 rw [←hS] at hla ⊢
 clear hS hE hE2 hT1 hF hle hlt h2
 go_enter Tryd.func11,Tryd.ntmps11
 go_wp2_with (first
  | (go_at_call 22;refine hla.mono ?_;clear hla;rintro e w1 ⟨s1,rfl,own1,b1⟩;have B1:=own1.bytesIn;(obtain ⟨x1,c1,hs1,-,-,-⟩:=B1.src);subst hs1)
  | (go_at_call 23;refine (hsu w1 x1 c1 b1 B1).mono ?_;clear hsu;rintro e w2 ⟨g2,rfl,hg2,r2,hb2⟩))
 go_ret
 exact ⟨_,rfl,row5 r2,below_next b1 hb2⟩
theorem cRef_long (l:List Nat) (cv:Value) (n:Nat) (bs:Nat→Nat) (hn:65528<l.length∨65528<n) (w:World) (h2:BytesIn w cv n bs) :
 Calls Tryd.prog 11 #[.string (strL l),cv] w fun e w'=>e = .returned (.slice none 0 0)∧w'=w:=by
 have hla:=named_long l cv n bs hn w h2
 obtain ⟨S,hS⟩:∃ S,S=strL l:=⟨_,rfl⟩
 rw [←hS] at hla ⊢
 clear hS hn h2
 go_enter Tryd.func11,Tryd.ntmps11
 go_wp2_with (go_at_call 22;refine hla.mono ?_;clear hla;rintro e w1 ⟨rfl,rfl⟩)
 go_ret
 exact ⟨rfl,rfl⟩
end Go.Proofs.YtibdhadbflfdpaaDoor
namespace Go.Proofs.YtibdhadbflfdpaaDoor
open Go.RowKit
set_option maxRecDepth 20000 in
set_option maxHeartbeats 4000000 in
theorem rJoin_any (xo:Option Addr) (cnt cap:Nat) (pv:Nat→Value) (pn:Nat→Nat) (pb:Nat→Nat→Nat) (hsz:∀ i,i<cnt→pn i≤65536) (hcnt:cnt≤1048576) (hsum:sumN pn cnt≤1048576) (w:World) (hP:PiecesIn w xo cnt pv pn pb) :
 Calls Tryd.prog 25 #[.slice xo cnt cap] w fun e w'=>∃ v,e = .returned v∧Own w.heap.size w' v (vsL pn cnt) (vsB pn pb cnt)∧Below w.heap.size w w':=by
 have hall:=vsL_le pn cnt
 go_enter Tryd.func25,Tryd.ntmps25
 go_wp2
 go_loopw [3,4] (fun al i wr=>∃ q:Nat,q≤cnt∧i = .int .i64 q∧(∃ xa ca,al = .slice xa (vsL pn q) ca∧Own w.heap.size wr (.slice xa (vsL pn q) ca) (vsL pn q) (vsB pn pb q))∧Below w.heap.size w wr) (fun _ i _=>cnt - (intOf i).toNat)
 case atStart=>exact ⟨0,Nat.zero_le _,rfl,⟨none,0,rfl,Own.nil _ _ _⟩,Below.refl _ _⟩
 case round =>
  obtain ⟨q,hq,rfl,⟨xa,ca,rfl,own⟩,hb⟩:=hrel
  by_cases hlt:q<cnt
  · obtain ⟨lb,lo,rfl,hcell⟩:=(hP.keep hb).cell q hlt
    have hBq:=(hP.keep hb).each q hlt
    have hc0:=hcell q hlt
    have hv:=rVec11_good (pv q) (pn q) (pb q) (hsz q hlt) wr hBq
    have hqi:(0:Int)≤(q:Int)∧(q:Int)<cnt:=by omega
    have hq1:(q:Int)<(cnt:Int):=by omega
    have HN:Hid (vsL pn (q+1)=vsL pn q+vcL (pn q)∧vsB pn pb (q+1)=cat (vsL pn q) (vsB pn pb q) (vcB (pn q) (pb q))):=Hid.mk' ⟨rfl,rfl⟩
    have hle:vsL pn (q+1)≤vsL pn cnt:=sumN_le _ hlt
    rw [HN.out.1] at hle
    obtain ⟨T,hT⟩:∃ T,T=vsL pn q:=⟨_,rfl⟩
    obtain ⟨F,hF⟩:∃ F,F=vsB pn pb q:=⟨_,rfl⟩
    obtain ⟨m,hm⟩:∃ m,m=vcL (pn q):=⟨_,rfl⟩
    obtain ⟨G,hG⟩:∃ G,G=vcB (pn q) (pb q):=⟨_,rfl⟩
    obtain ⟨vv,hvv⟩:∃ vv,vv=pv q:=⟨_,rfl⟩
    rw [←hT,←hF,←hm,←hG] at HN
    rw [←hT,←hm] at hle
    rw [←hT,←hF] at own
    rw [←hm,←hG,←hvv] at hv
    rw [←hvv] at hc0
    rw [←hT]
    have hTm:T+m≤140737488355328:=by omega
    clear hT hF hm hG hvv hBq hcell hP hle
    go_wp2_with (first
     | (go_at_call 39;refine hv.mono ?_;clear hv;rintro e w1 ⟨s1,rfl,own1,b1⟩;(obtain ⟨x1,c1,hs1,hxn1,hc1,hsrc1⟩:=(BytesIn.of_own own1).src);subst hs1;have hsrc:=hsrc1 w1 (Below.refl _ _);have ownW:=own.below b1;have hbw1:=below_next hb b1)
     | (at_builtin;refine wpList_append_bytes rfl (.tmp 21) (.tmp 22) rfl w.heap.size _ T F rfl ownW x1 m c1 G rfl hsrc hxn1 hTm hbw1.size ?_;intro v2 w2 own2 grow2;have hbw2:=Own.grown hbw1 grow2 ownW (Nat.le_refl _) hbw1.size;(obtain ⟨x2,c2,hv2⟩:=own2.slice);subst hv2))
    go_roundw
    case rel=>exact ⟨q+1,hlt,by go_num,⟨x2,c2,by rw [HN.out.1],by rw [HN.out.1,HN.out.2];exact own2⟩,hbw2⟩
    case measure=>simp [intOf];omega
  · obtain rfl:q=cnt:=by omega
    have hq1:¬(q:Int)<(q:Int):=by omega
    go_wp2
    go_ret
    exact ⟨_,rfl,own,hb⟩
end Go.Proofs.YtibdhadbflfdpaaDoor
