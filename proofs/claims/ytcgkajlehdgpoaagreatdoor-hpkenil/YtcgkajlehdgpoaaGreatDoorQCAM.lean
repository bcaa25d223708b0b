/- What the proof stands on: QCA, HExtr, QCX, ZAb2, IRow, Words, ICar, RefSub, RefApi, RefPow, Limbs, Number, Both, Then. -/
import Derived.Test.YtcgkajlehdgpoaaGreatDoorBaseM
import Derived.Test.YtcgkajlehdgpoaaGreatDoorHHmacM
import Derived.Lib.AppendStr
namespace Go.Proofs.YtcgkajlehdgpoaaGreatDoor
open Go.RowKit
theorem strCells_lit (l:List Nat) (h:∀ x,x∈l→x<256):Lib.strCells (strL l)=ints .u8 l.length (litB l):=by
 apply List.ext_getElem?
 intro j
 by_cases hj:j<l.length
 · rw [ints_at _ _ _ j hj]
   have hx:=h _ (List.getElem_mem hj)
   simp [Lib.strCells,strL,litB,hj,Nat.mod_eq_of_lt hx]
 · rw [List.getElem?_eq_none (by rw [Lib.strCells_length];simp [strL,ByteArray.size];omega),List.getElem?_eq_none (by rw [ints_len];omega)]
theorem wpList_append_str {w:World} {ops:Array Oper} {rest:List Oper} {o:Oper} {a:Act} {Q:Exit→Act→World→Prop} (hgd:o.guard=none) (s x:Operand) (tu:TypeId) (hu:Tryz.prog.underlying tu=some .string)
 (ho:o.op = .call { callee := .builtin .append,args:=#[s,x],argTypes:=#[22,tu] }) (base:Nat)
 (v:Value) (n:Nat) (X:Nat→Nat) (hs:a.eval s=v) (hown:Own base w v n X) (l:List Nat) (hlt:∀ x,x∈l→x<256) (hx:a.eval x = .string (strL l))
 (hl:n+l.length≤140737488355328) (hbase:base≤w.heap.size)
 (h:∀ v' w',Own base w' v' (n+l.length) (cat n X (litB l))→w.grownBy w' v.ownBlock→wpList Tryz.prog ops Q rest (a.put o.dst v') w'):wpList Tryz.prog ops Q (o :: rest) a w:=by
 obtain ⟨i0,hi,hz0,hz1,hz2⟩:=info_parts Tryz.info5
 have hsz:(strL l).size=l.length:=by simp [strL,ByteArray.size]
 refine wpList_plain hgd fun K hK => ?_
 obtain ⟨v',w',h1,h2,h3,-⟩:=Lib.run_append_own_string (P:=Tryz.prog) (w:=w) base 22 tu o.type 5 i0 Tryz.underlying22 hu hi hz0 hz1 hz2 v n _ hown (strL l) (by rw [hsz];unfold maxLen;omega) (by rw [hsz];omega) hbase
 rw [hsz,strCells_lit l hlt,ints_add] at h2
 unfold Oper.wp execOp
 simp only [ho,resolve,invoke,builtin,Sem.run_bind,Sem.run_pure,Result.andThen_ok,List.map_toArray,List.map_cons,List.map_nil,hs,hx,h1]
 exact hK _ _ (h v' w' h2 h3)
theorem Own.slice {base:Nat} {w:World} {v:Value} {n:Nat} {X:Nat→Nat} (h:Own base w v n X):∃ x c,v = .slice x n c:=by
 rcases h.form with ⟨hv,e0⟩ | ⟨g,c,hv,_⟩
 · exact ⟨none,0,by rw [hv,e0]⟩
 · exact ⟨_,c,hv⟩
def lbT (suite label:List Nat) (an:Nat) (A:Nat→Nat) (m:Nat) (t:Nat→Nat):List (Nat × (Nat→Nat)):=(an,A) :: lxT suite label m t
theorem lbT_front (suite label:List Nat) (an:Nat) (A:Nat→Nat) (m:Nat) (t:Nat→Nat) (j:Nat) (hj:j<an+7+suite.length+label.length) :
 cat (an+7+suite.length) (cat (an+7) (cat an A (litB lV1)) (litB suite)) (litB label) j=catL (lbT suite label an A m t) j:=by
 show _=cat an A (cat 7 (litB lV1) (cat suite.length (litB suite) (cat label.length (litB label) (cat m t (fun _=>0))))) j
 unfold cat
 by_cases h1:j<an
 · simp only [h1,show j<an+7 by omega,show j<an+7+suite.length by omega,if_true]
 · by_cases h2:j<an+7
   · simp only [h1,h2,show j - an<7 by omega,show j<an+7+suite.length by omega,if_true,if_false]
   · by_cases h3:j<an+7+suite.length
     · simp only [h1,h2,h3,show ¬j - an<7 by omega,show j - (an+7)<suite.length by omega,if_true,if_false,Nat.sub_sub]
     · simp only [h1,h3,show ¬j - an<7 by omega,show ¬j - (an+7)<suite.length by omega,show j - (an+7+suite.length)<label.length by omega,if_true,if_false,Nat.sub_sub]
theorem lbT_back (suite label:List Nat) (an:Nat) (A:Nat→Nat) (m:Nat) (t:Nat→Nat) (j:Nat) (hj:j<m):catL (lbT suite label an A m t) (an+7+suite.length+label.length+j)=t j:=by
 show cat an A (cat 7 (litB lV1) (cat suite.length (litB suite) (cat label.length (litB label) (cat m t (fun _=>0))))) _=_
 unfold cat
 rw [if_neg (by omega),if_neg (by omega),if_neg (by omega),if_neg (by omega),if_pos (by omega)]
 congr 1
 omega
set_option maxRecDepth 20000 in
set_option maxHeartbeats 4000000 in
theorem labelled_any (suite label:List Nat) (hsu:∀ x,x∈suite→x<256) (hla:∀ x,x∈label→x<256) (hsz:suite.length+label.length≤100) (av tv:Value) (an cnt m:Nat) (A t:Nat→Nat) (han:an≤100) (hcnt:cnt<1000000) (hm:m+300<140737488355000) (w:World) (h1:BytesIn w av an A) (h2:Texts w tv cnt m t) :
 Calls Tryz.prog 51 #[.string (strL suite),av,.string (strL label),tv] w fun e w'=>∃ s,e = .returned s∧Own w.heap.size w' s (an+7+suite.length+label.length+m) (catL (lbT suite label an A m t))∧Below w.heap.size w w':=by
 obtain ⟨xa,ca,rfl,hxa,-,hsa⟩:=h1.src
 obtain ⟨xt,gp,pvs,L,hxt,hxs,p0,p1,p2⟩:∃ (xt:Option Addr) (gp:Nat) (pvs:Nat→Value) (L:Nat→Nat),tv = .slice xt cnt cnt∧(0<cnt→xt=some ⟨gp,0,none⟩)∧L 0=0∧L cnt=m∧∀ i,i<cnt→w.cell? ⟨gp,i,none⟩=some (pvs i)∧L i≤L (i+1)∧L (i+1)≤m∧BytesIn w (pvs i) (L (i+1) - L i) (fun j=>t (L i+j)):=by
  rcases h2 with ⟨rfl,rfl,rfl⟩ | ⟨gp,rfl,pvs,L,q0,q1,q2⟩
  · exact ⟨none,0,fun _ => .bool false,fun _=>0,rfl,fun h=>absurd h (Nat.lt_irrefl 0),rfl,rfl,fun i hi=>absurd hi (Nat.not_lt_zero i)⟩
  · exact ⟨_,gp,pvs,L,rfl,fun _=>rfl,q0,q1,q2⟩
 subst hxt
 have P2:=Hid.mk' p2
 clear p2
 obtain ⟨T,hT⟩:∃ T,T=an+7+suite.length+label.length:=⟨_,rfl⟩
 obtain ⟨F,hF⟩:∃ F,F=catL (lbT suite label an A m t):=⟨_,rfl⟩
 have hfr:=lbT_front suite label an A m t
 have hbk:=lbT_back suite label an A m t
 rw [←hF,←hT] at hfr hbk
 have hT2:T≤300:=by omega
 rw [←hF,←hT]
 have hs0:=hsa w (Below.refl _ _)
 have HT:Hid (T=an+7+suite.length+label.length):=hT
 clear hT hF hsa h1 h2
 go_enter Tryz.func51,Tryz.ntmps51
 go_wp2_with (first
  | (at_builtin;refine wpList_append_bytes rfl (.const (.slice none 0 0)) (.tmp 12) rfl w.heap.size _ 0 A rfl (Own.nil _ _ _) xa an ca A rfl hs0 hxa (by omega) (Nat.le_refl _) ?_;intro v1 w1 own1 g1;(have b1:=Own.grown (Below.refl _ _) g1 (Own.nil _ _ A) (Nat.le_refl _) (Nat.le_refl _));rw [Nat.zero_add] at own1;replace own1:=own1.congr (Y:=A) (fun j _=>by unfold cat;rw [if_neg (by omega),Nat.sub_zero]);(obtain ⟨y1,d1,e1⟩:=own1.slice);subst e1;clear hs0)
  | (at_builtin;refine wpList_append_str rfl (.tmp 14) _ 9 Tryz.underlying9 rfl w.heap.size _ an A rfl own1 lV1 lV1_lt rfl (by show an+7≤_;omega) b1.size ?_;intro v2 w2 own2 g2;(have b2:=Own.grown b1 g2 own1 (Nat.le_refl _) b1.size);(replace own2:Own _ _ _ (an+7) _:=own2);(obtain ⟨y2,d2,e2⟩:=own2.slice);subst e2;clear own1)
  | (at_builtin;refine wpList_append_str rfl (.tmp 16) (.tmp 17) 63 Tryz.underlying63 rfl w.heap.size _ (an+7) _ rfl own2 suite hsu rfl (by omega) b2.size ?_;intro v3 w3 own3 g3;(have b3:=Own.grown b2 g3 own2 (Nat.le_refl _) b2.size);(obtain ⟨y3,d3,e3⟩:=own3.slice);subst e3;clear own2)
  | (at_builtin;refine wpList_append_str rfl (.tmp 19) (.tmp 20) 9 Tryz.underlying9 rfl w.heap.size _ (an+7+suite.length) _ rfl own3 label hla rfl (by omega) b3.size ?_;intro v4 w4 own4 g4;(have b4:=Own.grown b3 g4 own3 (Nat.le_refl _) b3.size);replace own4:=own4.congr (fun j hj=>hfr j (by have:=HT.out;omega));rw [←HT.out] at own4;(obtain ⟨y4,d4,e4⟩:=own4.slice);subst e4;clear own3))
 clear hfr
 go_loopw [9,24] (fun o i wr=>∃ k B:Nat,k≤cnt∧Hid (B=T+L k)∧i = .int .i64 (k:Int)∧(∃ xo co,o = .slice xo B co∧Own w.heap.size wr (.slice xo B co) B F)∧Below w.heap.size w wr) (fun _ i _=>cnt - (intOf i).toNat)
 case atStart=>exact ⟨0,T,Nat.zero_le _,Hid.mk' (by rw [p0,Nat.add_zero]),by go_num,⟨y4,d4,rfl,own4⟩,b4⟩
 case round =>
  obtain ⟨k,B,hk,HB,rfl,⟨xo,co,rfl,own⟩,hb⟩:=hrel
  clear own4 b4
  by_cases hlt:k<cnt
  · obtain rfl:=hxs (Nat.lt_of_le_of_lt (Nat.zero_le _) hlt)
    obtain ⟨c1,c2,c3,c4⟩:=P2.out k hlt
    obtain ⟨xs,cs,hp,hxn,-,hsrc⟩:=c4.src
    have hc:wr.cell? ⟨gp,k,none⟩=some (.slice xs (L (k+1) - L k) cs):=by
     rw [←hp]
     exact (hb.cell (p:=⟨gp,k,none⟩) (block_lt_of_cell c1)).trans c1
    have hs:=hsrc wr hb
    obtain ⟨D,hD⟩:∃ D,D=L (k+1) - L k:=⟨_,rfl⟩
    have hl:B+D=T+L (k+1):=by have:=HB.out;omega
    have hlm:B+D≤140737488355328:=by omega
    have hcg:∀ q,q<B+D→cat B F (fun j=>t (L k+j)) q=F q:=fun q hq=>by
     have:=HB.out
     unfold cat
     by_cases e:q<B
     · rw [if_pos e]
     · rw [if_neg e]
       show t (L k+(q - B))=F q
       rw [←hbk (L k+(q - B)) (by omega),show T+(L k+(q - B))=q by omega]
    obtain ⟨Y,hY⟩:∃ Y:Nat→Nat,Y=fun j=>t (L k+j):=⟨_,rfl⟩
    rw [←hD] at hc hs
    rw [←hY] at hs hcg
    have hki:(k:Int)<cnt:=by omega
    have Hl:Hid (B+D=T+L (k+1)):=hl
    clear c1 c2 c3 c4 hp hsrc hD hl hY p0 p1 hbk
    go_wp2_with (at_builtin;refine wpList_append_bytes rfl (.tmp 28) (.tmp 29) rfl w.heap.size _ B F rfl own xs D cs Y rfl hs hxn hlm hb.size ?_;intro v7 w7 own7 hg7;have hb7:=Own.grown hb hg7 own (Nat.le_refl _) hb.size)
    have own8:Own w.heap.size w7 v7 (B+D) F:=own7.congr hcg
    obtain ⟨x7,c7,hv7⟩:=own8.slice
    subst hv7
    clear own own7
    go_wp2
    go_roundw
    case rel=>exact ⟨k+1,B+D,by omega,Hid.mk' Hl.out,by go_num,⟨x7,c7,rfl,own8⟩,hb7⟩
    case measure=>show cnt - ((k:Int)+1).toNat<cnt - (k:Int).toNat;omega
  · have hqe:k=cnt:=by omega
    subst hqe
    have hB:=HB.out
    rw [p1] at hB
    go_wp2
    go_ret
    exact ⟨_,rfl,by rw [←hB];exact own,hb⟩
end Go.Proofs.YtcgkajlehdgpoaaGreatDoor
namespace Go.Proofs.YtcgkajlehdgpoaaGreatDoor
open Go.RowKit
theorem extract_any (v tv:Value) (n m:Nat) (bs t:Nat→Nat) (hbs:∀ j,bs j<256) (ht:∀ j,t j<256) (hnb:n<2305843009213693000) (hm:m<2305843009213693000) (w:World) (hT:HTab w cubeK squareK) (hv:BytesIn w v n bs) (htv:BytesIn w tv m t) :
 Calls Tryz.prog 52 #[v,tv] w fun e w'=>∃ g,e = .returned (.slice (some ⟨g,0,none⟩) 32 32)∧w.heap.size≤g∧RowAt .u8 w' g 0 32 (tagH (keyB n bs) m t)∧Below w.heap.size w w':=by
 have c1:=hmac_any v tv n m bs t hbs ht hnb hm w hT hv htv
 obtain ⟨X,hX⟩:∃ X,X=tagH (keyB n bs) m t:=⟨_,rfl⟩
 rw [←hX] at c1 ⊢
 clear hX hT hv htv
 go_enter Tryz.func52,Tryz.ntmps52
 go_wp2_with (go_at_call 73;refine c1.mono ?_;clear c1;rintro e w1 ⟨g,rfl,hg,hr,hb⟩)
 go_ret
 exact ⟨g,rfl,hg,hr,hb⟩
end Go.Proofs.YtcgkajlehdgpoaaGreatDoor
namespace Go.Proofs.YtcgkajlehdgpoaaGreatDoor
open Go.RowKit
theorem HTab.keep {w w':World} (h:HTab w cubeK squareK) (hb:Below w.heap.size w w'):HTab w' cubeK squareK:=h.below hb h.size
theorem lbT0 (suite label:List Nat) (X:Nat→Nat) (m:Nat) (t:Nat→Nat):catL (lbT suite label 0 X m t)=catL (lxT suite label m t):=by
 funext j
 show cat 0 X (catL (lxT suite label m t)) j=_
 unfold cat
 rw [if_neg (Nat.not_lt_zero j),Nat.sub_zero]
theorem lxT_lt {suite label:List Nat} {m:Nat} {t:Nat→Nat} (hsu:∀ x,x∈suite→x<256) (hla:∀ x,x∈label→x<256) (ht:∀ j,t j<256):∀ j,catL (lxT suite label m t) j<256:=catL_lt _ (by
 intro p hp
 simp only [lxT,List.mem_cons,List.not_mem_nil,or_false] at hp
 rcases hp with rfl | rfl | rfl | rfl
 · exact litB_lt lV1_lt
 · exact litB_lt hsu
 · exact litB_lt hla
 · exact ht)
theorem leT_lt {suite label:List Nat} {m N:Nat} {t:Nat→Nat} (hsu:∀ x,x∈suite→x<256) (hla:∀ x,x∈label→x<256) (ht:∀ j,t j<256):∀ j,catL (leT suite label m t N) j<256 :=
 cat_lt (litB_lt (by intro x hx;simp only [List.mem_cons,List.not_mem_nil,or_false] at hx;omega)) (lxT_lt hsu hla ht)
theorem row_bytes {w:World} {g n:Nat} {X:Nat→Nat} (h0:0<n) (h:RowAt .u8 w g 0 n X):BytesIn w (.slice (some ⟨g,0,none⟩) n n) n X :=
 .inr ⟨g,0,n,rfl,block_lt_of_cell (h 0 h0).1,Nat.le_refl _,fun j hj=>(h j hj).1⟩
set_option maxRecDepth 20000 in
set_option maxHeartbeats 2000000 in
theorem cextract_any (suite label:List Nat) (hsu:∀ x,x∈suite→x<256) (hla:∀ x,x∈label→x<256) (hsz:suite.length+label.length≤100) (sv tv:Value) (sn cnt m:Nat) (salt t:Nat→Nat) (hsalt:∀ j,salt j<256) (ht:∀ j,t j<256) (hsn:sn<140737488355000) (hcnt:cnt<1000000) (hm:m+300<140737488355000) (w:World) (hT:HTab w cubeK squareK) (h1:BytesIn w sv sn salt) (h2:Texts w tv cnt m t) :
 Calls Tryz.prog 29 #[.string (strL suite),sv,.string (strL label),tv] w fun e w'=>∃ s,e = .returned s∧BytesIn w' s 32 (lxN suite sn salt label m t)∧Below w.heap.size w w':=by
 have cl:=labelled_any suite label hsu hla hsz (.slice none 0 0) tv 0 cnt m lZ t (by decide) hcnt hm w (.inl ⟨none,rfl,rfl⟩) h2
 rw [lbT0,show 0+7+suite.length+label.length+m=lenL (lxT suite label m t) by show _=7+(suite.length+(label.length+(m+0)));omega] at cl
 have hL:lenL (lxT suite label m t)<2305843009213693000:=by show 7+(suite.length+(label.length+(m+0)))<_;omega
 have hx:=fun v W hb hv=>extract_any sv v sn (lenL (lxT suite label m t)) salt (catL (lxT suite label m t)) hsalt (lxT_lt hsu hla ht) (by omega) hL W (hT.keep hb) (h1.keep hb) hv
 obtain ⟨N,hN⟩:∃ N,N=lenL (lxT suite label m t):=⟨_,rfl⟩
 obtain ⟨F,hF⟩:∃ F,F=catL (lxT suite label m t):=⟨_,rfl⟩
 obtain ⟨X,hX⟩:∃ T,T=lxN suite sn salt label m t:=⟨_,rfl⟩
 have hX2:tagH (keyB sn salt) N F=X:=by rw [hX,hN,hF];rfl
 rw [←hN,←hF] at cl hx
 rw [hX2] at hx
 rw [←hX]
 generalize strL suite=su at *
 generalize strL label=lb at *
 clear hX hX2 hN hF hL h1 h2 hT
 go_enter Tryz.func29,Tryz.ntmps29
 go_wp2_with (first
  | (go_at_call 51;refine cl.mono ?_;clear cl;rintro e w4 ⟨s4,rfl,own4,b4⟩;(have x4:=hx s4 w4 b4 own4.bytesIn);clear hx)
  | (go_at_call 52;refine x4.mono ?_;clear x4;rintro e w5 ⟨g5,rfl,hg5,r5,hb5⟩))
 go_ret
 exact ⟨_,rfl,row_bytes (by decide) r5,below_next b4 hb5⟩
set_option maxRecDepth 20000 in
set_option maxHeartbeats 2000000 in
theorem cexpand_any (suite label:List Nat) (hsu:∀ x,x∈suite→x<256) (hla:∀ x,x∈label→x<256) (hsz:suite.length+label.length≤100) (pv tv:Value) (pn cnt m N:Nat) (prk t:Nat→Nat) (hN:N≤8160) (hprk:∀ j,prk j<256) (ht:∀ j,t j<256) (hpn:pn<140737488355000) (hcnt:cnt<1000000) (hm:m+300<140737488355000) (w:World) (hT:HTab w cubeK squareK) (h1:BytesIn w pv pn prk) (h2:Texts w tv cnt m t) :
 Calls Tryz.prog 28 #[.string (strL suite),pv,.int .i64 N,.string (strL label),tv] w fun e w'=>∃ s,e = .returned s∧(∃ g,s = .slice (some ⟨g,0,none⟩) N N∧w.heap.size≤g∧RowAt .u8 w' g 0 N (leN suite pn prk label m t N))∧Below w.heap.size w w':=by
 obtain ⟨xp,cp,rfl,-,-,-⟩:=h1.src
 obtain ⟨W0,hW0⟩:∃ W,W=w.alloc (.cells #[.int .u8 ((N / 256%256:Nat):Int),.int .u8 ((N%256:Nat):Int)] 5):=⟨_,rfl⟩
 have hb0:Below w.heap.size w W0:=by rw [hW0];exact (Below.refl _ _).alloc (Nat.le_refl _) _
 have hB0:BytesIn W0 (.slice (some ⟨w.heap.size,0,none⟩) 2 2) 2 (litB [N / 256%256,N%256]):=by rw [hW0];exact litB_B w [N / 256%256,N%256] (0,0)
 have cl:=labelled_any suite label hsu hla hsz _ tv 2 cnt m _ t (by decide) hcnt hm W0 hB0 (h2.keep hb0)
 rw [show 2+7+suite.length+label.length+m=lenL (leT suite label m t N) by show _=2+(7+(suite.length+(label.length+(m+0))));omega] at cl
 replace cl:Calls Tryz.prog 51 #[.string (strL suite),.slice (some ⟨w.heap.size,0,none⟩) 2 2,.string (strL label),tv] W0 fun e w'=>∃ s,e = .returned s∧Own W0.heap.size w' s (lenL (leT suite label m t N)) (catL (leT suite label m t N))∧Below W0.heap.size W0 w':=cl
 have hL:lenL (leT suite label m t N)<2305843009213692000:=by show 2+(7+(suite.length+(label.length+(m+0))))<_;omega
 have hx:=fun x c W hb hv=>expand_any xp x pn (lenL (leT suite label m t N)) cp c prk (catL (leT suite label m t N)) hprk (leT_lt hsu hla ht) (by omega) hL W (hT.keep hb) (h1.keep hb) hv N hN
 obtain ⟨LN,hLN⟩:∃ N',N'=lenL (leT suite label m t N):=⟨_,rfl⟩
 obtain ⟨F,hF⟩:∃ F,F=catL (leT suite label m t N):=⟨_,rfl⟩
 obtain ⟨X,hX⟩:∃ T,T=leN suite pn prk label m t N:=⟨_,rfl⟩
 have hX2:outF (keyB pn prk) LN F N=X:=by rw [hX,hLN,hF];rfl
 rw [←hLN,←hF] at cl hx
 rw [hX2] at hx
 rw [←hX]
 have hW:w.alloc (.cells #[.int .u8 ((N:Int) / 256),.int .u8 ((N:Int)%256)] 5)=W0:=by
  rw [hW0,show ((N / 256%256:Nat):Int)=(N:Int) / 256 by omega,show ((N%256:Nat):Int)=(N:Int)%256 by omega]
 rw [←hW] at cl
 generalize strL suite=su at *
 generalize strL label=lb at *
 rw [←hW] at hb0
 clear hX hX2 hLN hF hL h1 h2 hT hW0 hW hB0
 go_enter Tryz.func28,Tryz.ntmps28
 go_wp2_with (first
  | (go_at_call 51;refine cl.mono ?_;clear cl;rintro e w4 ⟨s4,rfl,own4,hb4⟩;(have b4:=below_next hb0 hb4);(obtain ⟨y4,d4,e4⟩:=own4.slice);subst e4;(have x4:=hx y4 d4 w4 b4 own4.bytesIn);clear hx)
  | (go_at_call 50;refine x4.mono ?_;clear x4;rintro e w5 ⟨g5,rfl,hg5,r5,hb5⟩))
 go_ret
 exact ⟨_,rfl,⟨g5,rfl,Nat.le_trans b4.size hg5,r5⟩,below_next b4 hb5⟩
end Go.Proofs.YtcgkajlehdgpoaaGreatDoor
namespace Go.Proofs.YtcgkajlehdgpoaaGreatDoor
open Go.RowKit
abbrev jD (n:Nat):Edge:={ on:=n,ground:=Ground.data }
abbrev jC (n:Nat):Edge:={ on:=n,ground:=Ground.chain }
abbrev jP (n:Nat):Edge:={ on:=n,ground:=Ground.phase }
abbrev jT (n:Nat):Edge:={ on:=n,ground:=Ground.textOnly Departure.lateStores }
abbrev jO (n:Nat):Edge:={ on:=n,ground:=Ground.gcOnly Departure.lateStores }
abbrev jU (n:Nat):Edge:={ on:=n,ground:=Ground.textOnly Departure.lateStoresUnsure }
abbrev oN (d:Nat) (o:Op) (t:TypeId) (p:String) (a:Array Edge):Oper:={ dst:=some d,op:=o,type:=t,pos:=p,after:=a,guard:=none }
abbrev oS (o:Op) (p:String) (a:Array Edge):Oper:={ dst:=none,op:=o,type:=0,pos:=p,after:=a,guard:=none }
abbrev cF1 (f:FuncId) (a:Array Operand) (t:Array TypeId):Op:=Op.call { callee:=Callee.value (Operand.func f),args:=a,argTypes:=t }
abbrev oT (k:Nat):Operand:=Operand.tmp k
abbrev pA (g o:Nat):Value := .pointer (some ⟨g,o,none⟩)
theorem pS:(∀ (a:Act) (d:Nat) (v:Value),a.put (some d) v={ a with tmps:=a.tmps.setIfInBounds d v })∧(∀ (l:List Value) (i:Nat) (v:Value),l.toArray.setIfInBounds i v=(l.set i v).toArray)∧(∀ (x:Value) (l:List Value) (v:Value),(x :: l).set 0 v=v :: l)∧(∀ (x:Value) (l:List Value) (n:Nat) (v:Value),(x :: l).set (n+1) v=x :: l.set n v) :=
 ⟨fun _ _ _=>rfl,fun _ _ _=>List.setIfInBounds_toArray ..,fun _ _ _=>rfl,fun _ _ _ _=>rfl⟩
section
variable {P:Program} {md:Region.Mode} {ops:Array Oper} {Q:Exit→Act→World→Prop} {S:World→Prop} {fuel:Nat} {listed:Array Bool} {a:Act} {w:World}
theorem tkH (i:Nat) (oi:Oper) (v:Value) (hS:S w) (hy:YieldsIf P ops S oi v a)
 (h:wpAnyH P md ops Q S fuel (listed.setIfInBounds i true) (a.put oi.dst v) w) (hQ:∀ c a w,Q (.panic c) (a.put oi.dst v) w→Q (.panic c) a w:=by exact fun _ _ _ h=>h) (hi:ops[i]? = some oi:=by rfl) (hs:Region.noSelect ops=true:=by kernel_rfl) (hf:Region.free md ops listed i=true:=by kernel_rfl) (hr:(Region.ready md ops listed).contains i=true:=by kernel_rfl):wpAnyH P md ops Q S (fuel+1) listed a w :=
 wpAnyH_take hi hs hf hr hQ hy hS h
theorem bR {w:World}:Below w.heap.size w w:=Below.refl _ _
theorem yR {o:Oper} {v:Value} (hw:Region.wanted o (yielded ops a.tmps)=true:=by rfl) (hr:∀ w,(execOp a.eval o).run P w = .ok (.value v) w:=by intro _;kernel_rfl):YieldsIf P ops S o v a := .inl ⟨hw,fun w _=>hr w⟩
theorem ldH {V:World} {o:Oper} {g off:Nat} {cs:List Value} (h:RW V g off cs) (ty k:Nat) {d:TypeDesc} (hu:P.underlying ty=some d) (hi:(P.info? ty).map (·.size)=some cs.length) (hd:d.isRow=true:=by rfl) (hw:Region.wanted o (yielded ops a.tmps)=true:=by rfl) (ho:o.op = .load ty (.tmp k):=by rfl) (hx:a.eval (.tmp k) = .pointer (some ⟨g,off,none⟩):=by rfl):YieldsIf P ops (fun w'=>Below V.heap.size V w') o (.agg cs.toArray) a :=
 yieldsIf_load_mid hw ty _ ho g off hx cs d (fun _ hb=>(h.still hb).range) hu hd hi
theorem ldO {V:World} {o:Oper} {g off b p n:Nat} {cs:List Value} (h:RW V g off cs) (hne:g≠b) (ty k:Nat) {d:TypeDesc} (hu:P.underlying ty=some d) (hi:(P.info? ty).map (·.size)=some cs.length) (hd:d.isRow=true:=by rfl) (hw:Region.wanted o (yielded ops a.tmps)=true:=by rfl) (ho:o.op = .load ty (.tmp k):=by rfl) (hx:a.eval (.tmp k) = .pointer (some ⟨g,off,none⟩):=by rfl):YieldsIf P ops (fun w'=>Out b p n V w') o (.agg cs.toArray) a :=
 yieldsIf_load_mid hw ty _ ho g off hx cs d (fun _ hb=>(h.out hb hne).range) hu hd hi
theorem arC {i:Nat} {rs:List Nat} (oi:Oper) {f:FuncId} {args:Array Value} {R:Ending→World→Prop} (c:Calls P f args w R) (h:∀ e w',R e w'→∃ r,e = .returned r∧S w'∧wpAnyH P md ops Q S fuel (listed.setIfInBounds i true) (a.put oi.dst r) w') (hs:AllReadyH P md ops Q S fuel listed a w rs)
 (hi:ops[i]? = some oi:=by rfl) (hw:Region.wanted oi (yielded ops a.tmps)=true:=by rfl) (hrun:(execOp a.eval oi).run P w = .ok (.enter f args) w:=by kernel_rfl):AllReadyH P md ops Q S fuel listed a w (i :: rs):=by
 refine AllReadyH.cons hi (fun K hK => ?_) hs
 rw [if_pos hw]
 unfold Oper.wp
 rw [hrun,Oper.upon_enter]
 refine c.mono fun e w' hR => ?_
 obtain ⟨r,rfl,hS,hk⟩:=h e w' hR
 exact hK.out _ _ hS (fun _=>hk)
theorem callH (i:Nat) (oi:Oper) {f:FuncId} {args:Array Value} {R:Ending→World→Prop} (c:Calls P f args w R) (h:∀ e w',R e w'→∃ r,e = .returned r∧S w'∧wpAnyH P md ops Q S fuel (listed.setIfInBounds i true) (a.put oi.dst r) w')
 (hr:Region.ready md ops listed=[i]:=by kernel_rfl) (hi:ops[i]? = some oi:=by rfl) (hw:Region.wanted oi (yielded ops a.tmps)=true:=by rfl) (hrun:(execOp a.eval oi).run P w = .ok (.enter f args) w:=by kernel_rfl):wpAnyH P md ops Q S (fuel+1) listed a w :=
 wpAnyH_ready hr (by simp) (arC oi c h AllReadyH.nil hi hw hrun)
theorem callN (i:Nat) (oi:Oper) {f:FuncId} {args:Array Value} {R:Ending→World→Prop} (c:Calls P f args w R) (h:∀ e w',R e w'→∃ r,e = .returned r∧Below w.heap.size w w'∧wpAnyH P md ops Q (fun u=>Below w'.heap.size w' u) fuel (listed.setIfInBounds i true) (a.put oi.dst r) w')
 (hr:Region.ready md ops listed=[i]:=by kernel_rfl) (hi:ops[i]? = some oi:=by rfl) (hw:Region.wanted oi (yielded ops a.tmps)=true:=by rfl) (hrun:(execOp a.eval oi).run P w = .ok (.enter f args) w:=by kernel_rfl):wpAnyH P md ops Q (fun u=>Below w.heap.size w u) (fuel+1) listed a w :=
 callH i oi c (fun e w' hR=>by
  obtain ⟨r,he,hb,hk⟩:=h e w' hR
  exact ⟨r,he,hb,wpAnyH_narrow (fun _ hu=>below_next hb hu) _ _ _ _ hk⟩) hr hi hw hrun
theorem dag_root (h:∀ G:Nat→Array Bool→Act→World→Prop,G=wpAnyH P md ops Q S→G fuel listed a w):wpAnyH P md ops Q S fuel listed a w:=h _ rfl
theorem dagW {G:Nat→Array Bool→Act→World→Prop} (hG:Hid (G=wpAnyH P md ops Q S)) {f:Nat} {l:Array Bool} {b:Act} (h:G f l b w) (hb:b=a) (hf:f=fuel:=by kernel_rfl) (hl:l=listed:=by kernel_rfl):wpAnyH P md ops Q S fuel listed a w:=by
 subst hf;subst hl;subst hb;rw [←hG.out];exact h
theorem at_list {i:Nat} {oi:Oper} (hi:ops.toList[i]? = some oi):ops[i]? = some oi:=by rw [←Array.getElem?_toList];exact hi
theorem tg (i:Nat) (hS:S w) {oi:Oper} {v:Value} (h:wpAnyH P md ops Q S fuel (listed.setIfInBounds i true) (a.put oi.dst v) w) (hi:ops.toList[i]? = some oi:=by rfl)
 (hy:∀ w,S w→(execOp a.eval oi).run P w = .ok (.value v) w:=by intro w hSw;go_simp;try with_reducible rfl) (hw:Region.wanted oi (yielded ops a.tmps)=true:=by rfl)
 (hQ:∀ c b w,Q (.panic c) (b.put oi.dst v) w→Q (.panic c) b w:=by exact fun _ _ _ h=>h) (hs:Region.noSelect ops=true:=by kernel_rfl) (hf:Region.free md ops listed i=true:=by kernel_rfl) (hr:(Region.ready md ops listed).contains i=true:=by kernel_rfl):wpAnyH P md ops Q S (fuel+1) listed a w :=
 tkH i oi v hS (.inl ⟨hw,hy⟩) h hQ (at_list hi) hs hf hr
theorem tc (i:Nat) (hS:S w) {oi:Oper} {g o:Nat} {v:Value} (hc:∀ u,S u→u.cell? ⟨g,o,none⟩=some v) (h:wpAnyH P md ops Q S fuel (listed.setIfInBounds i true) (a.put oi.dst v) w) (hi:ops.toList[i]? = some oi:=by rfl)
 (hy:∀ w,w.cell? ⟨g,o,none⟩=some v→(execOp a.eval oi).run P w = .ok (.value v) w:=by intro w hc;go_simp;try with_reducible rfl) (hw:Region.wanted oi (yielded ops a.tmps)=true:=by rfl)
 (hQ:∀ c b w,Q (.panic c) (b.put oi.dst v) w→Q (.panic c) b w:=by exact fun _ _ _ h=>h) (hs:Region.noSelect ops=true:=by kernel_rfl) (hf:Region.free md ops listed i=true:=by kernel_rfl) (hr:(Region.ready md ops listed).contains i=true:=by kernel_rfl):wpAnyH P md ops Q S (fuel+1) listed a w :=
 tkH i oi v hS (.inl ⟨hw,fun u hu=>hy u (hc u hu)⟩) h hQ (at_list hi) hs hf hr
theorem tl (i:Nat) {V:World} {oi:Oper} {g off k:Nat} {cs:List Value} (r:RW V g off cs) (hS:Below V.heap.size V w) (ty:Nat) {d:TypeDesc} (hu:P.underlying ty=some d) (hin:(P.info? ty).map (·.size)=some cs.length)
 (h:wpAnyH P md ops Q (fun u=>Below V.heap.size V u) fuel (listed.setIfInBounds i true) (a.put oi.dst (.agg cs.toArray)) w) (hi:ops.toList[i]? = some oi:=by rfl) (ho:oi.op = .load ty (.tmp k):=by rfl)
 (hd:d.isRow=true:=by rfl) (hw:Region.wanted oi (yielded ops a.tmps)=true:=by rfl) (hx:a.eval (.tmp k) = .pointer (some ⟨g,off,none⟩):=by rfl)
 (hQ:∀ c b w,Q (.panic c) (b.put oi.dst (.agg cs.toArray)) w→Q (.panic c) b w:=by exact fun _ _ _ h=>h) (hs:Region.noSelect ops=true:=by kernel_rfl) (hf:Region.free md ops listed i=true:=by kernel_rfl) (hr:(Region.ready md ops listed).contains i=true:=by kernel_rfl):wpAnyH P md ops Q (fun u=>Below V.heap.size V u) (fuel+1) listed a w :=
 tkH i oi _ hS (ldH r ty k hu hin hd hw ho hx) h hQ (at_list hi) hs hf hr
theorem cl (i:Nat) {oi:Oper} {f:FuncId} {args:Array Value} {R:Ending→World→Prop} (c:Calls P f args w R) (h:∀ e w',R e w'→∃ r,e = .returned r∧S w'∧wpAnyH P md ops Q S fuel (listed.setIfInBounds i true) (a.put oi.dst r) w')
 (hi:ops.toList[i]? = some oi:=by rfl) (hr:Region.ready md ops listed=[i]:=by kernel_rfl) (hw:Region.wanted oi (yielded ops a.tmps)=true:=by rfl) (hrun:(execOp a.eval oi).run P w = .ok (.enter f args) w:=by kernel_rfl):wpAnyH P md ops Q S (fuel+1) listed a w :=
 callH i oi c h hr (at_list hi) hw hrun
theorem cn (i:Nat) {oi:Oper} {f:FuncId} {args:Array Value} {R:Ending→World→Prop} (c:Calls P f args w R) (h:∀ e w',R e w'→∃ r,e = .returned r∧Below w.heap.size w w'∧wpAnyH P md ops Q (fun u=>Below w'.heap.size w' u) fuel (listed.setIfInBounds i true) (a.put oi.dst r) w')
 (hi:ops.toList[i]? = some oi:=by rfl) (hr:Region.ready md ops listed=[i]:=by kernel_rfl) (hw:Region.wanted oi (yielded ops a.tmps)=true:=by rfl) (hrun:(execOp a.eval oi).run P w = .ok (.enter f args) w:=by kernel_rfl):wpAnyH P md ops Q (fun u=>Below w.heap.size w u) (fuel+1) listed a w :=
 callN i oi c h hr (at_list hi) hw hrun
theorem tk (i:Nat) (v:Value) (hS:S w) {oi:Oper} (hi:ops.toList[i]? = some oi:=by rfl) (hy:YieldsIf P ops S oi v a) (h:wpAnyH P md ops Q S fuel (listed.setIfInBounds i true) (a.put oi.dst v) w)
 (hQ:∀ c b w,Q (.panic c) (b.put oi.dst v) w→Q (.panic c) b w:=by exact fun _ _ _ h=>h) (hs:Region.noSelect ops=true:=by kernel_rfl) (hf:Region.free md ops listed i=true:=by kernel_rfl) (hr:(Region.ready md ops listed).contains i=true:=by kernel_rfl):wpAnyH P md ops Q S (fuel+1) listed a w :=
 tkH i oi v hS hy h hQ (at_list hi) hs hf hr
end
end Go.Proofs.YtcgkajlehdgpoaaGreatDoor
namespace Go.Proofs.YtcgkajlehdgpoaaGreatDoor
open Go.RowKit
def IRow (w:World) (g n:Nat) (L:Nat→Int):Prop:=∀ j,j<n→w.cell? ⟨g,j,none⟩=some (.int .i64 (L j))∧w.frozen? ⟨g,j,none⟩=false
def intsI (n:Nat) (L:Nat→Int):List Value:=(List.range n).map fun j => .int .i64 (L j)
theorem intsI_len (n:Nat) (L:Nat→Int):(intsI n L).length=n:=by simp [intsI]
theorem intsI_at (n:Nat) (L:Nat→Int) (j:Nat) (h:j<n):(intsI n L)[j]? = some (.int .i64 (L j)):=by simp [intsI,h]
theorem IRow.below {B:Nat} {w w':World} {g n:Nat} {L:Nat→Int} (h:IRow w g n L) (hb:Below B w w') (hB:g<B):IRow w' g n L:=fun j hj =>
 ⟨(hb.cell (p:=⟨g,j,none⟩) hB).trans (h j hj).1,(hb.frozen (p:=⟨g,j,none⟩) hB).trans (h j hj).2⟩
theorem IRow.congr {w:World} {g n:Nat} {L M:Nat→Int} (h:IRow w g n L) (e:∀ j,j<n→L j=M j):IRow w g n M:=fun j hj=>by rw [←e j hj];exact h j hj
theorem IRow.drew {w:World} {g n:Nat} {L:Nat→Int} (h:IRow w g n L):IRow w.drew g n L:=fun j hj=>h j hj
def updI (L:Nat→Int) (i:Nat) (v:Int):Nat→Int:=fun j=>if j=i then v else L j
theorem IRow.set {w:World} {g n:Nat} {L:Nat→Int} (h:IRow w g n L) {i:Nat} (hi:i<n) (v:Int):IRow (w.setCell ⟨g,i,none⟩ (.int .i64 v)) g n (updI L i v):=fun j hj=>by
 obtain ⟨h1,h2⟩:=h j hj
 by_cases e:j=i
 · subst e
   refine ⟨?_,?_⟩
   · have:=World.rangeAt_setCells_same w g j [.int .i64 v] (fun k hk=>by
      have:k=0:=by simpa using hk
      subst this
      rw [Nat.add_zero,h1];exact ⟨rfl,h2⟩) 0 _ rfl
     simp only [updI,if_true]
     exact this
   · exact (World.frozen?_setCells g [.int .i64 v] j w _).trans h2
 · refine ⟨?_,(World.frozen?_setCells g [.int .i64 v] i w _).trans h2⟩
   simp only [updI,if_neg e]
   rw [←h1]
   exact World.cell?_setCells_out g [.int .i64 v] i w _ (fun _ _=>by show j<i∨i+1≤j;omega)
theorem IRow.far {w:World} {g n:Nat} {L:Nat→Int} (h:IRow w g n L) {a:Addr} (ha:a.block≠g) (v:Value):IRow (w.setCell a v) g n L:=fun j hj=>by
 have hk:(w.setCell a v).heap[g]? = w.heap[g]?:=Below.heap_setCell w a v g (Ne.symm ha)
 exact ⟨(World.cell?_of_block (w:=w) hk).trans (h j hj).1,(World.frozen?_of_block (w:=w) hk).trans (h j hj).2⟩
theorem IRow.range {w:World} {g n:Nat} {L:Nat→Int} (h:IRow w g n L):w.rangeAt g 0 (intsI n L):=fun j v hv=>by
 have hj:j<n:=by have:=(List.getElem?_eq_some_iff.1 hv).1;rwa [intsI_len] at this
 rw [intsI_at _ _ j hj] at hv
 cases hv
 rw [Nat.zero_add];exact (h j hj).1
theorem IRow.there {w:World} {g n:Nat} {L:Nat→Int} (h:IRow w g n L):w.there g 0 n:=fun j hj=>by
 rw [Nat.zero_add,(h j hj).1];exact ⟨rfl,(h j hj).2⟩
theorem IRow.fresh (w:World) (cs:Array Value) (t:TypeId) {n:Nat} {L:Nat→Int} (h:∀ j,j<n→cs[j]? = some (.int .i64 (L j))):IRow (w.alloc (.cells cs t)) w.heap.size n L:=fun j hj=>by
 refine ⟨?_,by simp⟩
 have:=h j hj
 simp [this]
theorem IRow.box (w:World) (n:Nat) (L:Nat→Int) (t:TypeId):IRow (w.alloc (.cells (intsI n L).toArray t)) w.heap.size n L:=IRow.fresh w _ t (fun j hj=>by rw [List.getElem?_toArray];exact intsI_at n L j hj)
theorem IRow.stored {w:World} {g n:Nat} {M L:Nat→Int} (h:IRow w g n M):IRow (w.setCells g 0 (intsI n L)) g n L:=fun j hj=>by
 have hr:=World.rangeAt_setCells_same w g 0 (intsI n L) (by rw [intsI_len];exact h.there)
 refine ⟨?_,(World.frozen?_setCells g (intsI n L) 0 w _).trans (h j hj).2⟩
 have:=hr j _ (intsI_at n L j hj)
 rwa [Nat.zero_add] at this
theorem IRow.farCells {w:World} {g n:Nat} {L:Nat→Int} (h:IRow w g n L) {k:Nat} (hk:g≠k) (o:Nat) (vs:List Value):IRow (w.setCells k o vs) g n L:=fun j hj=>by
 have hb:(w.setCells k o vs).heap[g]? = w.heap[g]?:=heap_setCells_other k vs o w g hk
 exact ⟨(World.cell?_of_block (w:=w) hb).trans (h j hj).1,(World.frozen?_of_block (w:=w) hb).trans (h j hj).2⟩
end Go.Proofs.YtcgkajlehdgpoaaGreatDoor
namespace Go.Proofs.YtcgkajlehdgpoaaGreatDoor
open Go.RowKit Go.Lib
def pF:Nat:=57896044618658097711785492504343953926634992332820282019728792003956564819949
set_option maxHeartbeats 1000000 in
theorem addProduct_any (t x y c:Nat) (ht:t<18446744073709551616) (hx:x<18446744073709551616) (hy:y<18446744073709551616) (hc:c<18446744073709551616) :
 ∃ l h:Nat,l<18446744073709551616∧h<18446744073709551616∧l+18446744073709551616*h=t+x*y+c∧∀ w,Calls Tryz.prog 179 #[.int .u64 t,.int .u64 x,.int .u64 y,.int .u64 c] w fun e w'=>e = .returned (.tuple #[.int .u64 l,.int .u64 h])∧w'=w:=by
 obtain ⟨h0,l0,hh0,hl0,e0,r0⟩:=mul64_ex x y hx hy
 obtain ⟨l1,k1,hl1,hk1,e1,r1⟩:=add64_ex0 l0 t hl0 ht
 obtain ⟨l2,k2,hl2,hk2,e2,r2⟩:=add64_ex0 l1 c hl1 hc
 have hxy:x*y≤18446744073709551615*18446744073709551615:=Nat.mul_le_mul (by omega) (by omega)
 obtain ⟨P,hP⟩:∃ P,P=x*y:=⟨_,rfl⟩
 rw [←hP] at e0 hxy ⊢
 clear hP
 refine ⟨l2,h0+k1+k2,hl2,by omega,by omega,fun w => ?_⟩
 have r0':=r0 w
 have b1:h0+k1<18446744073709551616:=by omega
 have b2:h0+k1+k2<18446744073709551616:=by omega
 clear e0 e1 e2 r0 hxy
 go_enter Tryz.func179,Tryz.ntmps179
 go_wp2_with (first
  | (go_at_call 187;refine r0'.mono ?_;rintro e w' ⟨rfl,rfl⟩)
  | rw [r1] | rw [r2])
 go_ret2
 exact ⟨rfl,rfl⟩
set_option maxHeartbeats 1000000 in
theorem addSmall_any (a b c d x:Nat) (ha:a<18446744073709551616) (hb:b<18446744073709551616) (hc:c<18446744073709551616) (hd:d<18446744073709551615) (hx:x<18446744073709551616) :
 ∃ s0 s1 s2 s3:Nat,s0<18446744073709551616∧s1<18446744073709551616∧s2<18446744073709551616∧s3<18446744073709551616∧val4 s0 s1 s2 s3=val4 a b c d+x∧∀ w,Calls Tryz.prog 151 #[.int .u64 a,.int .u64 b,.int .u64 c,.int .u64 d,.int .u64 x] w fun e w'=>e = .returned (.tuple #[.int .u64 s0,.int .u64 s1,.int .u64 s2,.int .u64 s3])∧w'=w:=by
 obtain ⟨s0,k0,hs0,hk0,e0,r0⟩:=add64_ex0 a x ha hx
 obtain ⟨s1,k1,hs1,hk1,e1,r1⟩:=add64_exz b k0 hb hk0
 obtain ⟨s2,k2,hs2,hk2,e2,r2⟩:=add64_exz c k1 hc hk1
 have b3:d+k2<18446744073709551616:=by omega
 refine ⟨s0,s1,s2,d+k2,hs0,hs1,hs2,b3,by unfold val4;omega,fun w => ?_⟩
 clear e0 e1 e2
 go_enter Tryz.func151,Tryz.ntmps151
 go_wp2_with (first | rw [r0] | rw [r1] | rw [r2])
 (try simp only [Exit.inBlock,Exit.then])
 refine bodyPost_ret (results_tmp4 rfl _ _ _) rfl ?_
 exact ⟨rfl,rfl⟩
theorem over_bits (top d:Nat) (ht:top≤38) (hd:d<18446744073709551616):bits .or .u64 ((top:Int)*2) ((d:Int) / 9223372036854775808)=((top*2+d / 9223372036854775808:Nat):Int):=by
 have e1:(top:Int)*2=((top*2:Nat):Int):=by omega
 have e2:(d:Int) / 9223372036854775808=((d / 9223372036854775808:Nat):Int):=by omega
 rw [e1,e2,bits_or_u64_nat _ _ (by omega) (by omega)]
 have h1:d / 9223372036854775808=0∨d / 9223372036854775808=1:=by omega
 congr 1
 rcases h1 with h | h <;> rw [h]
 · simp
 · have key:∀ k,k<39→k*2 ||| 1=k*2+1:=by decide
   exact key top (by omega)
theorem settle_val (V V' S M T o:Nat) (hV:V=V'+57896044618658097711785492504343953926634992332820282019728792003956564819968*o) (hS:S=V'+(T*2+o)*19) (hV':V'<57896044618658097711785492504343953926634992332820282019728792003956564819968) (hT:T≤38) (ho:o≤1) (hM:M=S+19) :
 (M<57896044618658097711785492504343953926634992332820282019728792003956564819968→(V+115792089237316195423570985008687907853269984665640564039457584007913129639936*T)%pF=S)∧(57896044618658097711785492504343953926634992332820282019728792003956564819968≤M→(V+115792089237316195423570985008687907853269984665640564039457584007913129639936*T)%pF=M - 57896044618658097711785492504343953926634992332820282019728792003956564819968):=by
 have key:V+115792089237316195423570985008687907853269984665640564039457584007913129639936*T=S+pF*(T*2+o):=by unfold pF;omega
 rw [key,Nat.add_mul_mod_self_left]
 unfold pF
 constructor <;> intro h <;> omega
theorem rm19 {f:FuncId} {a b c d:Value} {Q:Ending→World→Prop} {w:World} (h:Calls Tryz.prog f #[a,b,c,d,.int .u64 ((19:Nat):Int)] w Q):Calls Tryz.prog f #[a,b,c,d,.int .u64 19] w Q:=h
set_option maxRecDepth 20000 in
set_option maxHeartbeats 1000000 in
theorem settle_any (a b c d t:Nat) (ha:a<18446744073709551616) (hb:b<18446744073709551616) (hc:c<18446744073709551616) (hd:d<18446744073709551616) (ht:t≤38) (w:World) :
 Calls Tryz.prog 122 #[.int .u64 a,.int .u64 b,.int .u64 c,.int .u64 d,.int .u64 t] w fun e w'=>e = .returned (numV ((val4 a b c d+115792089237316195423570985008687907853269984665640564039457584007913129639936*t)%pF))∧Below w.heap.size w w':=by
 obtain ⟨s0,s1,s2,s3,h0,h1,h2,h3,es,rs⟩:=addSmall_any a b c (d%9223372036854775808) ((t*2+d / 9223372036854775808)*19) ha hb hc (by omega) (by omega)
 have hs3:s3<9223372036854775809:=by unfold val4 at es;omega
 obtain ⟨m0,m1,m2,m3,g0,g1,g2,g3,em,rm⟩:=addSmall_any s0 s1 s2 s3 19 h0 h1 h2 (by omega) (by decide)
 obtain ⟨f1,f2⟩:=settle_val (val4 a b c d) (val4 a b c (d%9223372036854775808)) (val4 s0 s1 s2 s3) (val4 m0 m1 m2 m3) t (d / 9223372036854775808) (by unfold val4;omega) es (by unfold val4;omega) ht (by omega) em
 obtain ⟨N,hN⟩:∃ N,N=(val4 a b c d+115792089237316195423570985008687907853269984665640564039457584007913129639936*t)%pF:=⟨_,rfl⟩
 rw [←hN] at f1 f2 ⊢
 have o1:=over_bits t d ht hd
 obtain ⟨ox,hox⟩:∃ ox,ox=t*2+d / 9223372036854775808:=⟨_,rfl⟩
 obtain ⟨dl,hdl⟩:∃ dl,dl=d%9223372036854775808:=⟨_,rfl⟩
 obtain ⟨ml,hml⟩:∃ ml,ml=m3%9223372036854775808:=⟨_,rfl⟩
 have hox77:ox≤77:=by omega
 rw [←hox,←hdl] at rs
 rw [←hox] at o1
 have o2:=mask63 d hd
 have o3:=mask63 m3 g3
 rw [←hdl] at o2
 rw [←hml] at o3
 obtain ⟨ov,hov⟩:∃ ov,ov=ox*19:=⟨_,rfl⟩
 rw [←hov] at rs
 have o4:(ox:Int)*19=(ov:Int):=by omega
 have hmll:ml<18446744073709551616:=by omega
 have fin1:m3 > 9223372036854775807→(Value.agg #[.int .u64 m0,.int .u64 m1,.int .u64 m2,.int .u64 ml]:Value)=numV N:=fun hm=>numV_of N m0 m1 m2 ml g0 g1 g2 (by omega) (by rw [f2 (by unfold val4;omega)];unfold val4;omega)
 have fin2:¬m3 > 9223372036854775807→(Value.agg #[.int .u64 s0,.int .u64 s1,.int .u64 s2,.int .u64 s3]:Value)=numV N:=fun hm=>numV_of N s0 s1 s2 s3 h0 h1 h2 (by omega) (by rw [f1 (by unfold val4;omega)])
 clear es em hN f1 f2 hox hdl hml hov
 by_cases hm:m3 > 9223372036854775807
 · have fin:=Hid.mk' (fin1 hm)
   have hm':(9223372036854775807:Int)<(m3:Int):=by omega
   clear fin1 fin2
   go_enter Tryz.func122,Tryz.ntmps122
   go_wp2_with (first
    | (go_at_call 151;refine (rs _).mono ?_;clear rs;rintro e w' ⟨rfl,hw⟩;subst hw)
    | (go_at_call 151;refine (rm19 (rm _)).mono ?_;rintro e w' ⟨rfl,hw⟩;subst hw))
   (try simp only [Exit.inBlock,Exit.then])
   exact bodyPost_ret (results_fresh4 Tryz.results122 _ _ _ _ _ _ _ rfl Tryz.underlying86 rfl (by kernel_rfl)) rfl ⟨by rw [fin.out],(Below.refl _ _).alloc (Nat.le_refl _) _⟩
 · have fin:=Hid.mk' (fin2 hm)
   have hm':¬(9223372036854775807:Int)<(m3:Int):=by omega
   clear fin1 fin2
   go_enter Tryz.func122,Tryz.ntmps122
   go_wp2_with (first
    | (go_at_call 151;refine (rs _).mono ?_;clear rs;rintro e w' ⟨rfl,hw⟩;subst hw)
    | (go_at_call 151;refine (rm19 (rm _)).mono ?_;rintro e w' ⟨rfl,hw⟩;subst hw))
   (try simp only [Exit.inBlock,Exit.then])
   exact bodyPost_ret (results_fresh4 Tryz.results122 _ _ _ _ _ _ _ rfl Tryz.underlying86 rfl (by kernel_rfl)) rfl ⟨by rw [fin.out],(Below.refl _ _).alloc (Nat.le_refl _) _⟩
end Go.Proofs.YtcgkajlehdgpoaaGreatDoor
namespace Go.Proofs.YtcgkajlehdgpoaaGreatDoor
open Go.RowKit
def cr (L:Nat→Int):Nat→Int
 | 0=>0
 | i+1=>(L i+cr L i) / 65536
def valR (L:Nat→Int):Nat→Int
 | 0=>0
 | n+1=>valR L n+L n*65536 ^ n
structure Dig (R:Int) (L:Nat→Int):Prop where
 low:-R≤L 0∧L 0≤R
 dig:∀ j,0<j→j<16→0≤L j∧L j≤65535
theorem Dig.all {R:Int} {L:Nat→Int} (h:Dig R L) (hR:65535≤R):∀ j,j<16→-R≤L j∧L j≤R:=fun j hj=>by
 by_cases e:j=0
 · rw [e];exact h.low
 · have:=h.dig j (by omega) hj;omega
end Go.Proofs.YtcgkajlehdgpoaaGreatDoor
namespace Go.Proofs.YtcgkajlehdgpoaaGreatDoor
open Go.RowKit
def pl (i:Nat):Int:=if i=0 then 65517 else if i=15 then 32767 else 65535
def bw (X:Nat→Int):Nat→Int
 | 0=>0
 | i+1=>if X i - pl i - bw X i<0 then 1 else 0
def rS (X:Nat→Int) (i:Nat):Int:=X i - pl i - bw X i
end Go.Proofs.YtcgkajlehdgpoaaGreatDoor
namespace Go.Proofs.YtcgkajlehdgpoaaGreatDoor
open Go.RowKit
theorem Dig.mono {R S:Int} {L:Nat→Int} (h:Dig R L) (hRS:R≤S):Dig S L:=⟨by have:=h.low;omega,h.dig⟩
end Go.Proofs.YtcgkajlehdgpoaaGreatDoor
namespace Go.Proofs.YtcgkajlehdgpoaaGreatDoor
open Go.RowKit
structure Rep (L:Nat→Int) (x:Nat):Prop where
 dig:Dig 65573 L
 val:valR L 16%(pF:Int)=((x%pF:Nat):Int)
theorem Rep.bd {L:Nat→Int} {x:Nat} (h:Rep L x):∀ j,j<16→-131072≤L j∧L j≤131072:=fun j hj=>by have:=h.dig.all (by decide) j hj;omega
end Go.Proofs.YtcgkajlehdgpoaaGreatDoor
namespace Go.Proofs.YtcgkajlehdgpoaaGreatDoor
open Go.RowKit
structure NumAt (w:World) (b n:Nat):Prop where
 c0:w.cell? ⟨b,0,none⟩=some (.int .u64 (lw n 0))
 c1:w.cell? ⟨b,1,none⟩=some (.int .u64 (lw n 1))
 c2:w.cell? ⟨b,2,none⟩=some (.int .u64 (lw n 2))
 c3:w.cell? ⟨b,3,none⟩=some (.int .u64 (lw n 3))
theorem NumAt.lt {w:World} {b n:Nat} (h:NumAt w b n):b<w.heap.size:=block_lt_of_cell h.c0
theorem NumAt.below {w w':World} {b n B:Nat} (h:NumAt w b n) (hb:Below B w w') (hB:b<B):NumAt w' b n :=
 ⟨(hb.cell (p:=⟨b,0,none⟩) hB).trans h.c0,(hb.cell (p:=⟨b,1,none⟩) hB).trans h.c1,(hb.cell (p:=⟨b,2,none⟩) hB).trans h.c2,(hb.cell (p:=⟨b,3,none⟩) hB).trans h.c3⟩
theorem NumAt.ex {w:World} {b n:Nat} (h:NumAt w b n) (hn:n<pF):∃ x0 x1 x2 x3:Nat,x0<18446744073709551616∧x1<18446744073709551616∧x2<18446744073709551616∧x3<18446744073709551616∧val4 x0 x1 x2 x3=n∧w.cell? ⟨b,0,none⟩=some (.int .u64 x0)∧w.cell? ⟨b,1,none⟩=some (.int .u64 x1)∧w.cell? ⟨b,2,none⟩=some (.int .u64 x2)∧w.cell? ⟨b,3,none⟩=some (.int .u64 x3) :=
 ⟨lw n 0,lw n 1,lw n 2,lw n 3,lw_lt _ _,lw_lt _ _,lw_lt _ _,lw_lt _ _,lw_val n (by unfold pF at hn;omega),h.c0,h.c1,h.c2,h.c3⟩
theorem numV_ex (n:Nat):∃ x0 x1 x2 x3:Nat,numV n = .agg #[.int .u64 x0,.int .u64 x1,.int .u64 x2,.int .u64 x3]:=⟨_,_,_,_,rfl⟩
theorem there_below {W w1:World} {b o n:Nat} (h:W.there b o n) (hb:Below W.heap.size W w1) (hl:b<W.heap.size):w1.there b o n:=fun j hj=>by
 rw [hb.cell (p:=⟨b,o+j,none⟩) hl,hb.frozen (p:=⟨b,o+j,none⟩) hl];exact h j hj
theorem there_fresh4 (w:World) (a b c d:Value) (t:TypeId):(w.alloc (.cells #[a,b,c,d] t)).there w.heap.size 0 4:=fun j hj=>by
 match j,hj with
 | 0,_=>simp
 | 1,_=>simp
 | 2,_=>simp
 | 3,_=>simp
theorem behind {w w1:World} {a b c d:Value} {t:TypeId} {n:Nat} (h:Below ((w.alloc (.cells #[a,b,c,d] t)).drewN n).heap.size ((w.alloc (.cells #[a,b,c,d] t)).drewN n) w1):w1.there w.heap.size 0 4∧Below w.heap.size w w1 ∧
 (w1.cell? ⟨w.heap.size,0,none⟩=some a∧w1.cell? ⟨w.heap.size,1,none⟩=some b∧w1.cell? ⟨w.heap.size,2,none⟩=some c∧w1.cell? ⟨w.heap.size,3,none⟩=some d)∧∀ j,j<4→w1.frozen? ⟨w.heap.size,j,none⟩=false:=by
 have hs:w.heap.size<((w.alloc (.cells #[a,b,c,d] t)).drewN n).heap.size:=by simp
 have ht:=there_below (W:=(w.alloc (.cells #[a,b,c,d] t)).drewN n) (fun j hj=>there_fresh4 w a b c d t j hj) h hs
 have hr:=range_fresh4 w a b c d t
 refine ⟨ht,(below_drewN ((Below.refl w.heap.size w).alloc (Nat.le_refl _) (.cells #[a,b,c,d] t)) n).trans (h.mono (Nat.le_of_lt hs)),⟨?_,?_,?_,?_⟩,fun j hj=>by have:=(ht j hj).2;rwa [Nat.zero_add] at this⟩
 · exact (h.cell (p:=⟨w.heap.size,0,none⟩) hs).trans (hr 0 a rfl)
 · exact (h.cell (p:=⟨w.heap.size,1,none⟩) hs).trans (hr 1 b rfl)
 · exact (h.cell (p:=⟨w.heap.size,2,none⟩) hs).trans (hr 2 c rfl)
 · exact (h.cell (p:=⟨w.heap.size,3,none⟩) hs).trans (hr 3 d rfl)
theorem behind' {w w1:World} {a b c d:Value} {t:TypeId} (h:Below (w.alloc (.cells #[a,b,c,d] t)).heap.size (w.alloc (.cells #[a,b,c,d] t)) w1):w1.there w.heap.size 0 4∧Below w.heap.size w w1 ∧
 (w1.cell? ⟨w.heap.size,0,none⟩=some a∧w1.cell? ⟨w.heap.size,1,none⟩=some b∧w1.cell? ⟨w.heap.size,2,none⟩=some c∧w1.cell? ⟨w.heap.size,3,none⟩=some d)∧∀ j,j<4→w1.frozen? ⟨w.heap.size,j,none⟩=false:=behind (n:=0) h
theorem results_set4 {P:Program} {fn:Func} {p:Tmp} {ty:TypeId} (h:fn.results=#[.cell p ty]) (tmps:Array Value) (w:World) (g:Nat) (a b c d:Value) {D:TypeDesc} (ht:w.there g 0 4)
 (hp:tmps.getD p undef = .pointer (some ⟨g,0,none⟩)) (hu:P.underlying ty=some D) (hd:D.isRow=true) (hi:(P.info? ty).map (·.size)=some 4) :
 (results fn tmps).run P ((((w.setCell ⟨g,0,none⟩ a).setCell ⟨g,1,none⟩ b).setCell ⟨g,2,none⟩ c).setCell ⟨g,3,none⟩ d) = .ok (.agg #[a,b,c,d]) ((((w.setCell ⟨g,0,none⟩ a).setCell ⟨g,1,none⟩ b).setCell ⟨g,2,none⟩ c).setCell ⟨g,3,none⟩ d) :=
 results_cell_mid h tmps _ g 0 [a,b,c,d] D hp (World.rangeAt_setCells_same w g 0 [a,b,c,d] ht) hu hd hi
theorem below_set4 {B:Nat} {u w:World} {g:Nat} (h:Below B u w) (hg:B≤g) (a b c d:Value):Below B u ((((w.setCell ⟨g,0,none⟩ a).setCell ⟨g,1,none⟩ b).setCell ⟨g,2,none⟩ c).setCell ⟨g,3,none⟩ d) :=
 (((h.setCell hg a).setCell hg b).setCell hg c).setCell hg d
set_option maxRecDepth 20000 in
set_option maxHeartbeats 2000000 in
theorem sum_any (p q x y:Nat) (hx:x<pF) (hy:y<pF) (w:World) (hp:NumAt w p x) (hq:NumAt w q y) :
 Calls Tryz.prog 177 #[.pointer (some ⟨p,0,none⟩),.pointer (some ⟨q,0,none⟩)] w fun e w'=>e = .returned (numV ((x+y)%pF))∧Below w.heap.size w w':=by
 have hpl:=hp.lt
 have hql:=hq.lt
 obtain ⟨x0,x1,x2,x3,hx0,hx1,hx2,hx3,ex,p0,p1,p2,p3⟩:=hp.ex hx
 obtain ⟨y0,y1,y2,y3,hy0,hy1,hy2,hy3,ey,q0,q1,q2,q3⟩:=hq.ex hy
 obtain ⟨s0,k0,hs0,hk0,e0,r0⟩:=add64_ex0 x0 y0 hx0 hy0
 obtain ⟨s1,k1,hs1,hk1,e1,r1⟩:=add64_ex x1 y1 k0 hx1 hy1 hk0
 obtain ⟨s2,k2,hs2,hk2,e2,r2⟩:=add64_ex x2 y2 k1 hx2 hy2 hk1
 obtain ⟨s3,k3,hs3,hk3,e3,r3⟩:=add64_ex x3 y3 k2 hx3 hy3 hk2
 have hv:val4 s0 s1 s2 s3+115792089237316195423570985008687907853269984665640564039457584007913129639936*k3=x+y:=by
  rw [←ex,←ey];unfold val4;omega
 have hset:=fun W=>settle_any s0 s1 s2 s3 k3 hs0 hs1 hs2 hs3 (by omega) W
 rw [hv] at hset
 obtain ⟨N,hN⟩:∃ N,N=(x+y)%pF:=⟨_,rfl⟩
 rw [←hN] at hset ⊢
 obtain ⟨z0,z1,z2,z3,hz⟩:=numV_ex N
 rw [hz] at hset ⊢
 clear ex ey hp hq e0 e1 e2 e3 hv hN hz
 go_enter Tryz.func177,Tryz.ntmps177
 go_wp2
 go_quiet (first | rw [r0])
 go_wp2
 go_quiet (first | rw [r1])
 go_wp2
 go_quiet (first | rw [r2])
 go_wp2
 go_quiet (first | rw [r3])
 go_wp2_with (go_at_call 122;refine (hset _).mono ?_;clear hset;rintro e w1 ⟨rfl,hb1⟩;(obtain ⟨ht1,hbw,⟨t0,t1,t2,t3⟩,hf⟩:=behind hb1);(have f0:=hf 0 (by decide));(have f1:=hf 1 (by decide));(have f2:=hf 2 (by decide));(have f3:=hf 3 (by decide));clear hb1 hf)
 (try simp only [Exit.inBlock,Exit.then])
 exact bodyPost_ret (results_set4 Tryz.results177 _ _ _ _ _ _ _ ht1 rfl Tryz.underlying86 rfl (by kernel_rfl)) rfl ⟨rfl,below_set4 hbw (Nat.le_refl _) _ _ _ _⟩
theorem diff_val (x y D E k u:Nat) (hx:x<pF) (hy:y<pF) (hk:k≤1) (_hu:u≤1) (hD:D+y=x+115792089237316195423570985008687907853269984665640564039457584007913129639936*k) (hDl:D<115792089237316195423570985008687907853269984665640564039457584007913129639936) (hE:E+19*k=D+115792089237316195423570985008687907853269984665640564039457584007913129639936*u) (_hEl:E<115792089237316195423570985008687907853269984665640564039457584007913129639936) :
 E%57896044618658097711785492504343953926634992332820282019728792003956564819968=(x+pF - y)%pF:=by
 unfold pF at *
 have h:k=0∨k=1:=by omega
 rcases h with rfl | rfl <;> omega
theorem val4_mask (a b c d:Nat) (ha:a<18446744073709551616) (hb:b<18446744073709551616) (hc:c<18446744073709551616):val4 a b c (d%9223372036854775808)=val4 a b c d%57896044618658097711785492504343953926634992332820282019728792003956564819968:=by
 unfold val4;omega
set_option maxRecDepth 20000 in
set_option maxHeartbeats 2000000 in
theorem difference_any (p q x y:Nat) (hx:x<pF) (hy:y<pF) (w:World) (hp:NumAt w p x) (hq:NumAt w q y) :
 Calls Tryz.prog 105 #[.pointer (some ⟨p,0,none⟩),.pointer (some ⟨q,0,none⟩)] w fun e w'=>e = .returned (numV ((x+pF - y)%pF))∧Below w.heap.size w w':=by
 have hpl:=hp.lt
 have hql:=hq.lt
 obtain ⟨x0,x1,x2,x3,hx0,hx1,hx2,hx3,ex,p0,p1,p2,p3⟩:=hp.ex hx
 obtain ⟨y0,y1,y2,y3,hy0,hy1,hy2,hy3,ey,q0,q1,q2,q3⟩:=hq.ex hy
 obtain ⟨s0,k0,hs0,hk0,e0,r0⟩:=sub64_ex0 x0 y0 hx0 hy0
 obtain ⟨s1,k1,hs1,hk1,e1,r1⟩:=sub64_ex x1 y1 k0 hx1 hy1 hk0
 obtain ⟨s2,k2,hs2,hk2,e2,r2⟩:=sub64_ex x2 y2 k1 hx2 hy2 hk1
 obtain ⟨s3,k3,hs3,hk3,e3,r3⟩:=sub64_ex x3 y3 k2 hx3 hy3 hk2
 obtain ⟨kk,hkk⟩:∃ kk,kk=19*k3:=⟨_,rfl⟩
 have okk:(19:Int)*(k3:Int)=(kk:Int):=by omega
 obtain ⟨u0,j0,hu0,hj0,g0,r4⟩:=sub64_ex0 s0 kk hs0 (by omega)
 obtain ⟨u1,j1,hu1,hj1,g1,r5⟩:=sub64_exz s1 j0 hs1 hj0
 obtain ⟨u2,j2,hu2,hj2,g2,r6⟩:=sub64_exz s2 j1 hs2 hj1
 obtain ⟨u3,j3,hu3,hj3,g3,r7⟩:=sub64_exz s3 j2 hs3 hj2
 have hv:=diff_val x y (val4 s0 s1 s2 s3) (val4 u0 u1 u2 u3) k3 j3 hx hy hk3 hj3 (by rw [←ex,←ey];unfold val4;omega) (val4_lt _ _ _ _ hs0 hs1 hs2 hs3) (by unfold val4;omega) (val4_lt _ _ _ _ hu0 hu1 hu2 hu3)
 rw [←val4_mask _ _ _ _ hu0 hu1 hu2] at hv
 have o3:=mask63 u3 hu3
 obtain ⟨ml,hml⟩:∃ ml,ml=u3%9223372036854775808:=⟨_,rfl⟩
 rw [←hml] at o3 hv
 have fin:=Hid.mk' (numV_of ((x+pF - y)%pF) u0 u1 u2 ml hu0 hu1 hu2 (by omega) hv)
 obtain ⟨N,hN⟩:∃ N,N=(x+pF - y)%pF:=⟨_,rfl⟩
 rw [←hN] at fin ⊢
 clear ex ey hp hq e0 e1 e2 e3 g0 g1 g2 g3 hv hN hml hkk
 go_enter Tryz.func105,Tryz.ntmps105
 go_wp2
 go_quiet (first | rw [r0])
 go_wp2
 go_quiet (first | rw [r1])
 go_wp2
 go_quiet (first | rw [r2])
 go_wp2
 go_quiet (first | rw [r3])
 go_wp2_with (first | rw [r4] | rw [r5] | rw [r6] | rw [r7])
 (try simp only [Exit.inBlock,Exit.then])
 exact bodyPost_ret (results_set4 Tryz.results105 _ _ _ _ _ _ _ (fun j hj=>there_fresh4 w _ _ _ _ _ j hj) rfl Tryz.underlying86 rfl (by kernel_rfl)) rfl ⟨by rw [fin.out],below_set4 (below_drewN ((Below.refl w.heap.size w).alloc (Nat.le_refl _) _) _) (Nat.le_refl _) _ _ _ _⟩
theorem row_mul (x a b c d:Nat):x*val4 a b c d=x*a+18446744073709551616*(x*b)+340282366920938463463374607431768211456*(x*c)+6277101735386680763835789423207666416102355444464034512896*(x*d):=by
 unfold val4
 rw [Nat.mul_add,Nat.mul_add,Nat.mul_add,Nat.mul_left_comm x,Nat.mul_left_comm x,Nat.mul_left_comm x]
set_option maxRecDepth 20000 in
set_option maxHeartbeats 2000000 in
theorem addRow_any (t0 t1 t2 t3 x y0 y1 y2 y3:Nat) (ht0:t0<18446744073709551616) (ht1:t1<18446744073709551616) (ht2:t2<18446744073709551616) (ht3:t3<18446744073709551616) (hx:x<18446744073709551616) (hy0:y0<18446744073709551616) (hy1:y1<18446744073709551616) (hy2:y2<18446744073709551616) (hy3:y3<18446744073709551616) :
 ∃ r0 r1 r2 r3 r4:Nat,r0<18446744073709551616∧r1<18446744073709551616∧r2<18446744073709551616∧r3<18446744073709551616∧r4<18446744073709551616∧r0+18446744073709551616*val4 r1 r2 r3 r4=val4 t0 t1 t2 t3+x*val4 y0 y1 y2 y3 ∧
 ∀ (w:World) (q:Nat),w.cell? ⟨q,0,none⟩=some (.int .u64 y0)→w.cell? ⟨q,1,none⟩=some (.int .u64 y1)→w.cell? ⟨q,2,none⟩=some (.int .u64 y2)→w.cell? ⟨q,3,none⟩=some (.int .u64 y3) →
  Calls Tryz.prog 178 #[.int .u64 t0,.int .u64 t1,.int .u64 t2,.int .u64 t3,.int .u64 x,.pointer (some ⟨q,0,none⟩)] w fun e w'=>e = .returned (.tuple #[.int .u64 r0,.int .u64 r1,.int .u64 r2,.int .u64 r3,.int .u64 r4])∧w'=w:=by
 obtain ⟨l0,h0,hl0,hh0,e0,r0⟩:=addProduct_any t0 x y0 0 ht0 hx hy0 (by decide)
 obtain ⟨l1,h1,hl1,hh1,e1,r1⟩:=addProduct_any t1 x y1 h0 ht1 hx hy1 hh0
 obtain ⟨l2,h2,hl2,hh2,e2,r2⟩:=addProduct_any t2 x y2 h1 ht2 hx hy2 hh1
 obtain ⟨l3,h3,hl3,hh3,e3,r3⟩:=addProduct_any t3 x y3 h2 ht3 hx hy3 hh2
 refine ⟨l0,l1,l2,l3,h3,hl0,hl1,hl2,hl3,hh3,by rw [row_mul x];unfold val4;omega,fun w q q0 q1 q2 q3 => ?_⟩
 have c0:Calls Tryz.prog 179 #[.int .u64 t0,.int .u64 x,.int .u64 y0,.int .u64 0] w fun e w'=>e = .returned (.tuple #[.int .u64 l0,.int .u64 h0])∧w'=w:=r0 w
 have c1:=r1 w
 have c2:=r2 w
 have c3:=r3 w
 clear e0 e1 e2 e3 r0 r1 r2 r3
 go_enter Tryz.func178,Tryz.ntmps178
 go_wp2_with (first
  | (go_at_call 179;refine c0.mono ?_;clear c0;rintro e w' ⟨rfl,hw⟩;subst hw)
  | (go_at_call 179;refine c1.mono ?_;clear c1;rintro e w' ⟨rfl,hw⟩;subst hw)
  | (go_at_call 179;refine c2.mono ?_;clear c2;rintro e w' ⟨rfl,hw⟩;subst hw)
  | (go_at_call 179;refine c3.mono ?_;clear c3;rintro e w' ⟨rfl,hw⟩;subst hw))
 (try simp only [Exit.inBlock,Exit.then])
 exact bodyPost_ret (results_tmp5 Tryz.results178 _ _ _) rfl ⟨rfl,rfl⟩
theorem prod_val (X Y a0 a1 a2 a3:Nat) (hX:val4 a0 a1 a2 a3=X) (w0 w1 w2 w3 A B C H:Nat) (e0:w0+18446744073709551616*A=a0*Y) (e1:w1+18446744073709551616*B=A+a1*Y) (e2:w2+18446744073709551616*C=B+a2*Y) (e3:w3+18446744073709551616*H=C+a3*Y) :
 val4 w0 w1 w2 w3+115792089237316195423570985008687907853269984665640564039457584007913129639936*H=X*Y:=by
 have h:X*Y=a0*Y+18446744073709551616*(a1*Y)+340282366920938463463374607431768211456*(a2*Y)+6277101735386680763835789423207666416102355444464034512896*(a3*Y):=by
  rw [←hX];unfold val4
  rw [Nat.add_mul,Nat.add_mul,Nat.add_mul,Nat.mul_assoc,Nat.mul_assoc,Nat.mul_assoc]
 rw [h];unfold val4;omega
theorem fold_val (W H V c XY:Nat) (h:W+115792089237316195423570985008687907853269984665640564039457584007913129639936*H=XY) (hv:V+115792089237316195423570985008687907853269984665640564039457584007913129639936*c=W+38*H) :
 (V+115792089237316195423570985008687907853269984665640564039457584007913129639936*c)%pF=XY%pF:=by
 have e:XY=W+38*H+pF*(2*H):=by unfold pF;omega
 rw [hv,e,Nat.add_mul_mod_self_left]
set_option maxRecDepth 20000 in
set_option maxHeartbeats 2000000 in
theorem product_any (p q x y:Nat) (hx:x<pF) (hy:y<pF) (w:World) (hp:NumAt w p x) (hq:NumAt w q y) :
 Calls Tryz.prog 155 #[.pointer (some ⟨p,0,none⟩),.pointer (some ⟨q,0,none⟩)] w fun e w'=>e = .returned (numV (x*y%pF))∧Below w.heap.size w w':=by
 have hpl:=hp.lt
 have hql:=hq.lt
 obtain ⟨x0,x1,x2,x3,hx0,hx1,hx2,hx3,ex,p0,p1,p2,p3⟩:=hp.ex hx
 obtain ⟨y0,y1,y2,y3,hy0,hy1,hy2,hy3,ey,q0,q1,q2,q3⟩:=hq.ex hy
 obtain ⟨w0,a0,a1,a2,a3,hw0,ha0,ha1,ha2,ha3,e0,r0⟩:=addRow_any 0 0 0 0 x0 y0 y1 y2 y3 (by decide) (by decide) (by decide) (by decide) hx0 hy0 hy1 hy2 hy3
 obtain ⟨w1,b0,b1,b2,b3,hw1,hb0,hb1,hb2,hb3,e1,r1⟩:=addRow_any a0 a1 a2 a3 x1 y0 y1 y2 y3 ha0 ha1 ha2 ha3 hx1 hy0 hy1 hy2 hy3
 obtain ⟨w2,c0,c1,c2,c3,hw2,hc0,hc1,hc2,hc3,e2,r2⟩:=addRow_any b0 b1 b2 b3 x2 y0 y1 y2 y3 hb0 hb1 hb2 hb3 hx2 hy0 hy1 hy2 hy3
 obtain ⟨w3,d0,d1,d2,d3,hw3,hd0,hd1,hd2,hd3,e3,r3⟩:=addRow_any c0 c1 c2 c3 x3 y0 y1 y2 y3 hc0 hc1 hc2 hc3 hx3 hy0 hy1 hy2 hy3
 obtain ⟨v0,k0,hv0,hk0,g0,r4⟩:=addProduct_any w0 d0 38 0 hw0 hd0 (by decide) (by decide)
 obtain ⟨v1,k1,hv1,hk1,g1,r5⟩:=addProduct_any w1 d1 38 k0 hw1 hd1 (by decide) hk0
 obtain ⟨v2,k2,hv2,hk2,g2,r6⟩:=addProduct_any w2 d2 38 k1 hw2 hd2 (by decide) hk1
 obtain ⟨v3,k3,hv3,hk3,g3,r7⟩:=addProduct_any w3 d3 38 k2 hw3 hd3 (by decide) hk2
 rw [ey] at e0 e1 e2 e3
 have hz:val4 0 0 0 0=0:=rfl
 rw [hz,Nat.zero_add] at e0
 have hprod:=prod_val x y x0 x1 x2 x3 ex w0 w1 w2 w3 _ _ _ _ e0 e1 e2 e3
 have hfold:val4 v0 v1 v2 v3+115792089237316195423570985008687907853269984665640564039457584007913129639936*k3=val4 w0 w1 w2 w3+38*val4 d0 d1 d2 d3:=by unfold val4;omega
 have hk38:k3≤38:=by
  have h1:=val4_lt w0 w1 w2 w3 hw0 hw1 hw2 hw3
  have h2:=val4_lt d0 d1 d2 d3 hd0 hd1 hd2 hd3
  omega
 have hset:=fun W=>settle_any v0 v1 v2 v3 k3 hv0 hv1 hv2 hv3 hk38 W
 rw [fold_val _ _ _ _ _ hprod hfold] at hset
 obtain ⟨N,hN⟩:∃ N,N=x*y%pF:=⟨_,rfl⟩
 rw [←hN] at hset ⊢
 obtain ⟨z0,z1,z2,z3,hz⟩:=numV_ex N
 rw [hz] at hset ⊢
 have m0:∀ W:World,W.cell? ⟨q,0,none⟩=some (.int .u64 y0)→W.cell? ⟨q,1,none⟩=some (.int .u64 y1)→W.cell? ⟨q,2,none⟩=some (.int .u64 y2)→W.cell? ⟨q,3,none⟩=some (.int .u64 y3)→Calls Tryz.prog 178 #[.int .u64 0,.int .u64 0,.int .u64 0,.int .u64 0,.int .u64 x0,.pointer (some ⟨q,0,none⟩)] W fun e w'=>e = .returned (.tuple #[.int .u64 w0,.int .u64 a0,.int .u64 a1,.int .u64 a2,.int .u64 a3])∧w'=W:=fun W=>r0 W q
 have m4:∀ W:World,Calls Tryz.prog 179 #[.int .u64 w0,.int .u64 d0,.int .u64 38,.int .u64 0] W fun e w'=>e = .returned (.tuple #[.int .u64 v0,.int .u64 k0])∧w'=W:=fun W=>r4 W
 have m5:∀ W:World,Calls Tryz.prog 179 #[.int .u64 w1,.int .u64 d1,.int .u64 38,.int .u64 k0] W fun e w'=>e = .returned (.tuple #[.int .u64 v1,.int .u64 k1])∧w'=W:=fun W=>r5 W
 have m6:∀ W:World,Calls Tryz.prog 179 #[.int .u64 w2,.int .u64 d2,.int .u64 38,.int .u64 k1] W fun e w'=>e = .returned (.tuple #[.int .u64 v2,.int .u64 k2])∧w'=W:=fun W=>r6 W
 have m7:∀ W:World,Calls Tryz.prog 179 #[.int .u64 w3,.int .u64 d3,.int .u64 38,.int .u64 k2] W fun e w'=>e = .returned (.tuple #[.int .u64 v3,.int .u64 k3])∧w'=W:=fun W=>r7 W
 obtain ⟨W,hW⟩:∃ W,W=w.alloc (.cells #[.int .u64 0,.int .u64 0,.int .u64 0,.int .u64 0] 86):=⟨_,rfl⟩
 have HW:=Hid.mk' hW
 have hbw:Below w.heap.size w W:=by rw [hW];exact (Below.refl _ _).alloc (Nat.le_refl _) _
 have Q0:=(hbw.cell (p:=⟨q,0,none⟩) hql).trans q0
 have Q1:=(hbw.cell (p:=⟨q,1,none⟩) hql).trans q1
 have Q2:=(hbw.cell (p:=⟨q,2,none⟩) hql).trans q2
 have Q3:=(hbw.cell (p:=⟨q,3,none⟩) hql).trans q3
 have P0:=(hbw.cell (p:=⟨p,0,none⟩) hpl).trans p0
 have P1:=(hbw.cell (p:=⟨p,1,none⟩) hpl).trans p1
 have P2:=(hbw.cell (p:=⟨p,2,none⟩) hpl).trans p2
 have P3:=(hbw.cell (p:=⟨p,3,none⟩) hpl).trans p3
 replace m0:=m0 W Q0 Q1 Q2 Q3
 have m1:=r1 W q Q0 Q1 Q2 Q3
 have m2:=r2 W q Q0 Q1 Q2 Q3
 have m3:=r3 W q Q0 Q1 Q2 Q3
 clear ex ey hp hq e0 e1 e2 e3 g0 g1 g2 g3 hprod hfold hN hz r0 r1 r2 r3 r4 r5 r6 r7 p1 p2 p3 q0 q1 q2 q3 P0 hW
 go_enter Tryz.func155,Tryz.ntmps155
 go_wp2_with (first
  | (go_at_call 178;rw [←HW.out];refine m0.mono ?_;clear m0;rintro e w' ⟨rfl,hw⟩;subst hw)
  | (go_at_call 178;refine m1.mono ?_;clear m1;rintro e w' ⟨rfl,hw⟩;subst hw)
  | (go_at_call 178;refine m2.mono ?_;clear m2;rintro e w' ⟨rfl,hw⟩;subst hw)
  | (go_at_call 178;refine m3.mono ?_;clear m3;rintro e w' ⟨rfl,hw⟩;subst hw)
  | (go_at_call 179;refine (m4 _).mono ?_;clear m4;rintro e w' ⟨rfl,hw⟩;subst hw)
  | (go_at_call 179;refine (m5 _).mono ?_;clear m5;rintro e w' ⟨rfl,hw⟩;subst hw)
  | (go_at_call 179;refine (m6 _).mono ?_;clear m6;rintro e w' ⟨rfl,hw⟩;subst hw)
  | (go_at_call 179;refine (m7 _).mono ?_;clear m7;rintro e w' ⟨rfl,hw⟩;subst hw)
  | (go_at_call 122;refine (hset _).mono ?_;clear hset;rintro e w9 ⟨rfl,hb9⟩;rw [HW.out] at hb9;(obtain ⟨ht1,hbw9,⟨t0,t1,t2,t3⟩,hf⟩:=behind' hb9);(have f0:=hf 0 (by decide));(have f1:=hf 1 (by decide));(have f2:=hf 2 (by decide));(have f3:=hf 3 (by decide));clear hb9 hf))
 (try simp only [Exit.inBlock,Exit.then])
 exact bodyPost_ret (results_set4 Tryz.results155 _ _ _ _ _ _ _ ht1 rfl Tryz.underlying86 rfl (by kernel_rfl)) rfl ⟨rfl,below_set4 hbw9 (Nat.le_refl _) _ _ _ _⟩
end Go.Proofs.YtcgkajlehdgpoaaGreatDoor
namespace Go.Proofs.YtcgkajlehdgpoaaGreatDoor
open Go.RowKit
theorem behind3 {w w1:World} {A B:Obj} {a b c d:Value} {t:TypeId} (h:Below (((w.alloc A).alloc B).alloc (.cells #[a,b,c,d] t)).heap.size (((w.alloc A).alloc B).alloc (.cells #[a,b,c,d] t)) w1):w1.there (w.heap.size+1+1) 0 4∧Below w.heap.size w w1 ∧
 (w1.cell? ⟨w.heap.size+1+1,0,none⟩=some a∧w1.cell? ⟨w.heap.size+1+1,1,none⟩=some b∧w1.cell? ⟨w.heap.size+1+1,2,none⟩=some c∧w1.cell? ⟨w.heap.size+1+1,3,none⟩=some d)∧∀ j,j<4→w1.frozen? ⟨w.heap.size+1+1,j,none⟩=false:=by
 have hs:((w.alloc A).alloc B).heap.size=w.heap.size+1+1:=by simp
 have:=behind' h
 rw [hs] at this
 obtain ⟨h1,h2,h3,h4⟩:=this
 exact ⟨h1,(((Below.refl w.heap.size w).alloc (Nat.le_refl _) A).alloc (by simp) B).trans (h2.mono (by omega)),h3,h4⟩
theorem numAt_boxes (w:World) (x y:Nat) (C:Obj) (t:TypeId):NumAt (((w.alloc (.cells #[.int .u64 (lw x 0),.int .u64 (lw x 1),.int .u64 (lw x 2),.int .u64 (lw x 3)] t)).alloc (.cells #[.int .u64 (lw y 0),.int .u64 (lw y 1),.int .u64 (lw y 2),.int .u64 (lw y 3)] t)).alloc C) w.heap.size x∧NumAt (((w.alloc (.cells #[.int .u64 (lw x 0),.int .u64 (lw x 1),.int .u64 (lw x 2),.int .u64 (lw x 3)] t)).alloc (.cells #[.int .u64 (lw y 0),.int .u64 (lw y 1),.int .u64 (lw y 2),.int .u64 (lw y 3)] t)).alloc C) (w.heap.size+1) y:=by
 have h1:∀ (u:World) (n:Nat),NumAt (u.alloc (.cells #[.int .u64 (lw n 0),.int .u64 (lw n 1),.int .u64 (lw n 2),.int .u64 (lw n 3)] t)) u.heap.size n:=fun u n=>by constructor <;> simp
 refine ⟨((h1 w x).below ((Below.refl _ _).alloc (Nat.le_refl _) _) (by simp)).below ((Below.refl _ _).alloc (Nat.le_refl _) _) (by simp;omega),?_⟩
 have h2:=h1 (w.alloc (.cells #[.int .u64 (lw x 0),.int .u64 (lw x 1),.int .u64 (lw x 2),.int .u64 (lw x 3)] t)) y
 have hs:(w.alloc (.cells #[.int .u64 (lw x 0),.int .u64 (lw x 1),.int .u64 (lw x 2),.int .u64 (lw x 3)] t)).heap.size=w.heap.size+1:=by simp
 rw [hs] at h2
 exact h2.below ((Below.refl _ _).alloc (Nat.le_refl _) C) (by simp)
set_option maxRecDepth 20000 in
set_option maxHeartbeats 2000000 in
theorem plus_any (x y:Nat) (hx:x<pF) (hy:y<pF) (w:World) :
 Calls Tryz.prog 154 #[numV x,numV y] w fun e w'=>e = .returned (numV ((x+y)%pF))∧Below w.heap.size w w':=by
 obtain ⟨hX,hY⟩:=numAt_boxes w x y (.cells #[.int .u64 0,.int .u64 0,.int .u64 0,.int .u64 0] 88) 88
 have hs:=sum_any w.heap.size (w.heap.size+1) x y hx hy _ hX hY
 obtain ⟨N,hN⟩:∃ N,N=(x+y)%pF:=⟨_,rfl⟩
 rw [←hN] at hs ⊢
 obtain ⟨z0,z1,z2,z3,hz⟩:=numV_ex N
 rw [hz] at hs ⊢
 unfold numV
 clear hX hY hN hz
 go_enter Tryz.func154,Tryz.ntmps154
 go_wp2_with (go_at_call 177;refine hs.mono ?_;clear hs;rintro e w1 ⟨rfl,hb1⟩;(obtain ⟨ht1,hbw,⟨t0,t1,t2,t3⟩,hf⟩:=behind3 hb1);(have f0:=hf 0 (by decide));(have f1:=hf 1 (by decide));(have f2:=hf 2 (by decide));(have f3:=hf 3 (by decide));clear hb1 hf)
 (try simp only [Exit.inBlock,Exit.then])
 exact bodyPost_ret (results_set4 Tryz.results154 _ _ _ _ _ _ _ ht1 rfl Tryz.underlying88 rfl (by kernel_rfl)) rfl ⟨rfl,below_set4 hbw (by omega) _ _ _ _⟩
set_option maxRecDepth 20000 in
set_option maxHeartbeats 2000000 in
theorem minus_any (x y:Nat) (hx:x<pF) (hy:y<pF) (w:World) :
 Calls Tryz.prog 77 #[numV x,numV y] w fun e w'=>e = .returned (numV ((x+pF - y)%pF))∧Below w.heap.size w w':=by
 obtain ⟨hX,hY⟩:=numAt_boxes w x y (.cells #[.int .u64 0,.int .u64 0,.int .u64 0,.int .u64 0] 88) 88
 have hs:=difference_any w.heap.size (w.heap.size+1) x y hx hy _ hX hY
 obtain ⟨N,hN⟩:∃ N,N=(x+pF - y)%pF:=⟨_,rfl⟩
 rw [←hN] at hs ⊢
 obtain ⟨z0,z1,z2,z3,hz⟩:=numV_ex N
 rw [hz] at hs ⊢
 unfold numV
 clear hX hY hN hz
 go_enter Tryz.func77,Tryz.ntmps77
 go_wp2_with (go_at_call 105;refine hs.mono ?_;clear hs;rintro e w1 ⟨rfl,hb1⟩;(obtain ⟨ht1,hbw,⟨t0,t1,t2,t3⟩,hf⟩:=behind3 hb1);(have f0:=hf 0 (by decide));(have f1:=hf 1 (by decide));(have f2:=hf 2 (by decide));(have f3:=hf 3 (by decide));clear hb1 hf)
 (try simp only [Exit.inBlock,Exit.then])
 exact bodyPost_ret (results_set4 Tryz.results77 _ _ _ _ _ _ _ ht1 rfl Tryz.underlying88 rfl (by kernel_rfl)) rfl ⟨rfl,below_set4 hbw (by omega) _ _ _ _⟩
set_option maxRecDepth 20000 in
set_option maxHeartbeats 2000000 in
theorem times_any (x y:Nat) (hx:x<pF) (hy:y<pF) (w:World) :
 Calls Tryz.prog 126 #[numV x,numV y] w fun e w'=>e = .returned (numV (x*y%pF))∧Below w.heap.size w w':=by
 obtain ⟨hX,hY⟩:=numAt_boxes w x y (.cells #[.int .u64 0,.int .u64 0,.int .u64 0,.int .u64 0] 88) 88
 have hs:=product_any w.heap.size (w.heap.size+1) x y hx hy _ hX hY
 obtain ⟨N,hN⟩:∃ N,N=x*y%pF:=⟨_,rfl⟩
 rw [←hN] at hs ⊢
 obtain ⟨z0,z1,z2,z3,hz⟩:=numV_ex N
 rw [hz] at hs ⊢
 unfold numV
 clear hX hY hN hz
 go_enter Tryz.func126,Tryz.ntmps126
 go_wp2_with (go_at_call 155;refine hs.mono ?_;clear hs;rintro e w1 ⟨rfl,hb1⟩;(obtain ⟨ht1,hbw,⟨t0,t1,t2,t3⟩,hf⟩:=behind3 hb1);(have f0:=hf 0 (by decide));(have f1:=hf 1 (by decide));(have f2:=hf 2 (by decide));(have f3:=hf 3 (by decide));clear hb1 hf)
 (try simp only [Exit.inBlock,Exit.then])
 exact bodyPost_ret (results_set4 Tryz.results126 _ _ _ _ _ _ _ ht1 rfl Tryz.underlying88 rfl (by kernel_rfl)) rfl ⟨rfl,below_set4 hbw (by omega) _ _ _ _⟩
set_option maxRecDepth 20000 in
set_option maxHeartbeats 2000000 in
theorem bytes_any (n:Nat) (w:World) :
 Calls Tryz.prog 55 #[numV n] w fun e w'=>∃ g,e = .returned (.slice (some ⟨g,0,none⟩) 32 32)∧w.heap.size≤g∧RowAt .u8 w' g 0 32 (byt n)∧Below w.heap.size w w':=by
 obtain ⟨W,hW⟩:∃ W,W=w.alloc (.cells #[.int .u64 (lw n 0),.int .u64 (lw n 1),.int .u64 (lw n 2),.int .u64 (lw n 3)] 88):=⟨_,rfl⟩
 have hN:NumAt W w.heap.size n:=by rw [hW];constructor <;> simp
 have hWs:W.heap.size=w.heap.size+1:=by rw [hW];simp
 have hbW:Below w.heap.size w W:=by rw [hW];exact (Below.refl _ _).alloc (Nat.le_refl _) _
 have hlw:∀ (wr:World),Below (w.heap.size+1) W wr→∀ a,a<4→wr.cell? ⟨w.heap.size,a,none⟩=some (.int .u64 (lw n a)):=fun wr hb a ha=>by
  have h:=hN.below hb (by omega)
  match a,ha with
  | 0,_=>exact h.c0
  | 1,_=>exact h.c1
  | 2,_=>exact h.c2
  | 3,_=>exact h.c3
 have hmk:=make_bytes W 32 32 rfl (by decide)
 have HW:=Hid.mk' hW
 have hb0:Below (w.heap.size+1) W (W.alloc (.cells (zb 32) 5)):=(Below.refl _ _).alloc (by omega) _
 have hrow0:RowAt .u8 (W.alloc (.cells (zb 32) 5)) (w.heap.size+1) 0 32 (fun _=>0):=by rw [←hWs];exact RowAt.fresh (fun j hj=>zb_at 32 j hj)
 unfold numV
 clear hW hN
 go_enter Tryz.func55,Tryz.ntmps55
 go_wp2_with (rw [←HW.out];rw [hmk])
 go_loopw [8] (fun i wr=>∃ k:Nat,k≤32∧i = .int .i64 k∧RowAt .u8 wr (w.heap.size+1) 0 32 (fun j=>if j<k then byt n j else 0)∧Below (w.heap.size+1) W wr) (fun i _=>32 - (intOf i).toNat)
 case atStart=>exact ⟨0,Nat.zero_le _,rfl,hrow0.congr (fun j _=>by simp),hb0⟩
 case round =>
  clear hrow0 hb0 hmk
  obtain ⟨k,hk,rfl,hrow,hb⟩:=hrel
  by_cases hlt:k<32
  · obtain ⟨rk,rf⟩:=hrow k hlt
    rw [Nat.zero_add] at rk rf
    have hc:=hlw wr hb (k / 8) (by omega)
    have rk0:wr.cell? ⟨w.heap.size+1,k,none⟩=some (.int .u8 0):=by simpa using rk
    clear hlw rk
    go_wp2
    go_roundw
    case rel =>
     have h1:=hrow.set (i:=k) hlt (v:=(lw n (k / 8):Int) / 2 ^ (k%8*8)%256) (u:=byt n k) (word_byte_int n k)
     rw [Nat.zero_add] at h1
     refine ⟨k+1,by omega,by go_num,h1.congr (fun j hj => ?_),hb.setCell (Nat.le_refl _) _⟩
     unfold upd
     by_cases e:j=k
     · rw [if_pos e,if_pos (by omega),e]
     · rw [if_neg e]
       show (if j<k then byt n j else 0)=_
       by_cases e2:j<k
       · rw [if_pos e2,if_pos (by omega)]
       · rw [if_neg e2,if_neg (by omega)]
    case measure=>simp [intOf];omega
  · go_wp2
    go_ret
    exact ⟨w.heap.size+1,rfl,by omega,hrow.congr (fun j hj=>by rw [if_pos (by omega)]),hbW.trans (hb.mono (by omega))⟩
theorem results_cell_tmp {P:Program} {fn:Func} {p q:Tmp} {ty:TypeId} (h:fn.results=#[.cell p ty,.tmp q]) (tmps:Array Value) (w:World) (g o:Nat) (cs:List Value) (d:TypeDesc)
 (hp:tmps.getD p undef = .pointer (some ⟨g,o,none⟩)) (hc:w.rangeAt g o cs)
 (hu:P.underlying ty=some d) (hd:d.isRow=true) (hi:(P.info? ty).map (·.size)=some cs.length) :
 (results fn tmps).run P w = .ok (.tuple #[.agg cs.toArray,tmps.getD q undef]) w:=by
 have hp':tmps[p]?.getD undef = .pointer (some ⟨g,o,none⟩):=by simpa using hp
 simp [results,h,hp',asAddr,run_loadVar_mid w g o ty cs d hc hu hd hi]
theorem numV_zero:numV 0 = .agg #[.int .u64 0,.int .u64 0,.int .u64 0,.int .u64 0]:=by kernel_rfl
set_option maxRecDepth 20000 in
set_option maxHeartbeats 2000000 in
theorem from_other (xo:Option Addr) (n c:Nat) (hn:n≠32) (w:World) :
 Calls Tryz.prog 100 #[.slice xo n c] w fun e w'=>e = .returned (.tuple #[numV 0,.int .i64 1])∧Below w.heap.size w w':=by
 have hni:¬(n:Int)=32:=by omega
 rw [numV_zero]
 go_enter Tryz.func100,Tryz.ntmps100
 go_wp2
 (try simp only [Exit.inBlock,Exit.then])
 exact bodyPost_ret (results_cell_tmp Tryz.results100 _ _ w.heap.size 0 [.int .u64 0,.int .u64 0,.int .u64 0,.int .u64 0] _ rfl (range_fresh4 w _ _ _ _ _) Tryz.underlying88 rfl (by kernel_rfl)) rfl ⟨rfl,(Below.refl _ _).alloc (Nat.le_refl _) _⟩
set_option maxRecDepth 20000 in
set_option maxHeartbeats 2000000 in
theorem from_32 (bb ob c:Nat) (bs:Nat→Nat) (hbs:∀ j,bs j<256) (w:World) (hbl:bb<w.heap.size) (hc:∀ j,j<32→w.cell? ⟨bb,ob+j,none⟩=some (.int .u8 (bs j))) :
 Calls Tryz.prog 100 #[.slice (some ⟨bb,ob,none⟩) 32 c] w fun e w'=>e = .returned (.tuple #[numV (ofB bs 32%pF),.int .i64 0])∧Below w.heap.size w w':=by
 obtain ⟨W,hW⟩:∃ W,W=w.alloc (.cells #[.int .u64 0,.int .u64 0,.int .u64 0,.int .u64 0] 88):=⟨_,rfl⟩
 have hWs:W.heap.size=w.heap.size+1:=by rw [hW];simp
 have hbW:Below w.heap.size w W:=by rw [hW];exact (Below.refl _ _).alloc (Nat.le_refl _) _
 have HW:=Hid.mk' hW
 have hrow0:RowAt .u64 (W.alloc (.cells #[.int .u64 0,.int .u64 0,.int .u64 0,.int .u64 0] 86)) (w.heap.size+1) 0 4 (lw (ofB bs 0)):=by
  rw [←hWs]
  have hz:∀ a,lw (ofB bs 0) a=0:=fun a=>by unfold lw ofB;rw [Nat.zero_div,Nat.zero_mod]
  exact RowAt.fresh (fun j hj=>by rw [hz];exact match j,hj with | 0,_=>rfl | 1,_=>rfl | 2,_=>rfl | 3,_=>rfl)
 have hb0:Below (w.heap.size+1) W (W.alloc (.cells #[.int .u64 0,.int .u64 0,.int .u64 0,.int .u64 0] 86)):=(Below.refl _ _).alloc (by omega) _
 have hset:∀ W',Calls Tryz.prog 122 #[.int .u64 (lw (ofB bs 32) 0),.int .u64 (lw (ofB bs 32) 1),.int .u64 (lw (ofB bs 32) 2),.int .u64 (lw (ofB bs 32) 3),.int .u64 0] W' fun e w'=>e = .returned (numV (ofB bs 32%pF))∧Below W'.heap.size W' w':=fun W'=>by
  have:=settle_any (lw (ofB bs 32) 0) (lw (ofB bs 32) 1) (lw (ofB bs 32) 2) (lw (ofB bs 32) 3) 0 (lw_lt _ _) (lw_lt _ _) (lw_lt _ _) (lw_lt _ _) (by decide) W'
  rw [lw_val _ (ofB_lt bs hbs 32),Nat.mul_zero,Nat.add_zero] at this
  exact this
 obtain ⟨N,hN⟩:∃ N,N=ofB bs 32%pF:=⟨_,rfl⟩
 rw [←hN] at hset ⊢
 obtain ⟨z0,z1,z2,z3,hz⟩:=numV_ex N
 rw [hz] at hset ⊢
 clear hW hN hz
 go_enter Tryz.func100,Tryz.ntmps100
 go_wp2
 rw [←HW.out]
 go_loopw [13] (fun i wr=>∃ k:Nat,k≤32∧i = .int .i64 k∧RowAt .u64 wr (w.heap.size+1) 0 4 (lw (ofB bs k))∧Below (w.heap.size+1) W wr) (fun i _=>32 - (intOf i).toNat)
 case atStart=>exact ⟨0,Nat.zero_le _,rfl,hrow0,hb0⟩
 case round =>
  clear hrow0 hb0
  obtain ⟨k,hk,rfl,hrow,hb⟩:=hrel
  by_cases hlt:k<32
  · obtain ⟨rk,rf⟩:=hrow (k / 8) (by omega)
    rw [Nat.zero_add] at rk rf
    have hck:wr.cell? ⟨bb,ob+k,none⟩=some (.int .u8 (bs k)):=((hbW.trans (hb.mono (by omega))).cell (p:=⟨bb,ob+k,none⟩) hbl).trans (hc k hlt)
    have hor:=or_byte (lw (ofB bs k) (k / 8)) (bs k) k (lw_lt _ _) (hbs k)
    have hbk:=hbs k
    clear hc hset
    go_wp2
    go_roundw
    case rel =>
     have h1:=hrow.set (i:=k / 8) (by omega) (v:=((lw (ofB bs k) (k / 8) ||| bs k*2 ^ (k%8*8):Nat):Int)) rfl
     rw [Nat.zero_add] at h1
     refine ⟨k+1,by omega,by go_num,h1.congr (fun j hj => ?_),hb.setCell (Nat.le_refl _) _⟩
     rw [word_more bs hbs k j]
     unfold upd
     by_cases e:j=k / 8
     · rw [if_pos e,if_pos e,e]
     · rw [if_neg e,if_neg e]
    case measure=>simp [intOf];omega
  · have hke:k=32:=by omega
    rw [hke] at hrow
    have d0:=(hrow 0 (by decide)).1
    have d1:=(hrow 1 (by decide)).1
    have d2:=(hrow 2 (by decide)).1
    have d3:=(hrow 3 (by decide)).1
    rw [Nat.zero_add] at d0 d1 d2 d3
    have hsr:=hset wr
    obtain ⟨v0,hv0⟩:∃ v,v=lw (ofB bs 32) 0:=⟨_,rfl⟩
    obtain ⟨v1,hv1⟩:∃ v,v=lw (ofB bs 32) 1:=⟨_,rfl⟩
    obtain ⟨v2,hv2⟩:∃ v,v=lw (ofB bs 32) 2:=⟨_,rfl⟩
    obtain ⟨v3,hv3⟩:∃ v,v=lw (ofB bs 32) 3:=⟨_,rfl⟩
    rw [←hv0] at d0
    rw [←hv1] at d1
    rw [←hv2] at d2
    rw [←hv3] at d3
    rw [←hv0,←hv1,←hv2,←hv3] at hsr
    clear hset hrow hc hke hv0 hv1 hv2 hv3
    have hbr:Below (w.heap.size+1) (w.alloc (.cells #[.int .u64 0,.int .u64 0,.int .u64 0,.int .u64 0] 88)) wr:=by rw [←HW.out];exact hb
    go_wp2_with (go_at_call 122;refine hsr.mono ?_;clear hsr;rintro e w1 ⟨rfl,hb1⟩;(obtain ⟨ht1,hbw,⟨t0,t1,t2,t3⟩,hf⟩:=behind' (w:=w) (by rw [World.size_alloc];exact hbr.trans (hb1.mono (by have:=hbr.size;rw [World.size_alloc] at this;exact this)));(have f0:=hf 0 (by decide));(have f1:=hf 1 (by decide));(have f2:=hf 2 (by decide));(have f3:=hf 3 (by decide));clear hb1 hf))
    (try simp only [Exit.inBlock,Exit.then])
    exact bodyPost_ret (results_cell_tmp Tryz.results100 _ _ w.heap.size 0 [.int .u64 z0,.int .u64 z1,.int .u64 z2,.int .u64 z3] _ rfl (World.rangeAt_setCells_same w1 w.heap.size 0 [.int .u64 z0,.int .u64 z1,.int .u64 z2,.int .u64 z3] ht1) Tryz.underlying88 rfl (by kernel_rfl)) rfl ⟨rfl,below_set4 hbw (Nat.le_refl _) _ _ _ _⟩
end Go.Proofs.YtcgkajlehdgpoaaGreatDoor
namespace Go.Proofs.YtcgkajlehdgpoaaGreatDoor
open Go.RowKit
structure FourAt (w:World) (g:Nat) (a b c d:Value):Prop where
 c0:w.cell? ⟨g,0,none⟩=some a
 c1:w.cell? ⟨g,1,none⟩=some b
 c2:w.cell? ⟨g,2,none⟩=some c
 c3:w.cell? ⟨g,3,none⟩=some d
 f0:w.frozen? ⟨g,0,none⟩=false
 f1:w.frozen? ⟨g,1,none⟩=false
 f2:w.frozen? ⟨g,2,none⟩=false
 f3:w.frozen? ⟨g,3,none⟩=false
theorem FourAt.below {w w':World} {g B:Nat} {a b c d:Value} (h:FourAt w g a b c d) (hb:Below B w w') (hB:g<B):FourAt w' g a b c d :=
 ⟨(hb.cell (p:=⟨g,0,none⟩) hB).trans h.c0,(hb.cell (p:=⟨g,1,none⟩) hB).trans h.c1,(hb.cell (p:=⟨g,2,none⟩) hB).trans h.c2,(hb.cell (p:=⟨g,3,none⟩) hB).trans h.c3,(hb.frozen (p:=⟨g,0,none⟩) hB).trans h.f0,(hb.frozen (p:=⟨g,1,none⟩) hB).trans h.f1,(hb.frozen (p:=⟨g,2,none⟩) hB).trans h.f2,(hb.frozen (p:=⟨g,3,none⟩) hB).trans h.f3⟩
theorem FourAt.there {w:World} {g:Nat} {a b c d:Value} (h:FourAt w g a b c d):w.there g 0 4:=fun j hj=>by
 match j,hj with
 | 0,_=>exact ⟨by rw [h.c0];rfl,h.f0⟩
 | 1,_=>exact ⟨by rw [show (0+1:Nat)=1 from rfl,h.c1];rfl,h.f1⟩
 | 2,_=>exact ⟨by rw [show (0+2:Nat)=2 from rfl,h.c2];rfl,h.f2⟩
 | 3,_=>exact ⟨by rw [show (0+3:Nat)=3 from rfl,h.c3];rfl,h.f3⟩
theorem FourAt.range {w:World} {g:Nat} {a b c d:Value} (h:FourAt w g a b c d):w.rangeAt g 0 [a,b,c,d]:=fun j v hv=>by
 match j,hv with
 | 0,hv=>cases hv;exact h.c0
 | 1,hv=>cases hv;exact h.c1
 | 2,hv=>cases hv;exact h.c2
 | 3,hv=>cases hv;exact h.c3
theorem FourAt.drew {w:World} {g:Nat} {a b c d:Value} (h:FourAt w g a b c d):FourAt w.drew g a b c d:=⟨h.c0,h.c1,h.c2,h.c3,h.f0,h.f1,h.f2,h.f3⟩
theorem four_fresh (w:World) (a b c d:Value) (t:TypeId):FourAt (w.alloc (.cells #[a,b,c,d] t)) w.heap.size a b c d:=by constructor <;> simp
def set4 (w:World) (g:Nat) (a b c d:Value):World:=(((w.setCell ⟨g,0,none⟩ a).setCell ⟨g,1,none⟩ b).setCell ⟨g,2,none⟩ c).setCell ⟨g,3,none⟩ d
theorem FourAt.set {w:World} {g:Nat} {a b c d:Value} (h:FourAt w g a b c d) (a' b' c' d':Value):FourAt (set4 w g a' b' c' d') g a' b' c' d':=by
 have hr:=World.rangeAt_setCells_same w g 0 [a',b',c',d'] h.there
 have hf:∀ j,(set4 w g a' b' c' d').frozen? ⟨g,j,none⟩=w.frozen? ⟨g,j,none⟩:=fun j=>World.frozen?_setCells g [a',b',c',d'] 0 w _
 exact ⟨hr 0 _ rfl,hr 1 _ rfl,hr 2 _ rfl,hr 3 _ rfl,(hf 0).trans h.f0,(hf 1).trans h.f1,(hf 2).trans h.f2,(hf 3).trans h.f3⟩
theorem set4_other {w:World} {g k:Nat} (hk:k≠g) (a b c d:Value):(set4 w g a b c d).heap[k]? = w.heap[k]?:=heap_setCells_other g [a,b,c,d] 0 w k hk
theorem FourAt.far {w:World} {g k:Nat} {a b c d:Value} (h:FourAt w g a b c d) (hk:g≠k) (a' b' c' d':Value):FourAt (set4 w k a' b' c' d') g a b c d:=by
 have hc:∀ j,(set4 w k a' b' c' d').cell? ⟨g,j,none⟩=w.cell? ⟨g,j,none⟩:=fun j=>World.cell?_of_block (w:=w) (set4_other hk a' b' c' d')
 have hf:∀ j,(set4 w k a' b' c' d').frozen? ⟨g,j,none⟩=w.frozen? ⟨g,j,none⟩:=fun j=>World.frozen?_of_block (w:=w) (set4_other hk a' b' c' d')
 exact ⟨(hc 0).trans h.c0,(hc 1).trans h.c1,(hc 2).trans h.c2,(hc 3).trans h.c3,(hf 0).trans h.f0,(hf 1).trans h.f1,(hf 2).trans h.f2,(hf 3).trans h.f3⟩
theorem below_set4' {B:Nat} {u w:World} {g:Nat} (h:Below B u w) (hg:B≤g) (a b c d:Value):Below B u (set4 w g a b c d):=below_set4 h hg a b c d
theorem size_set4 (w:World) (g:Nat) (a b c d:Value):(set4 w g a b c d).heap.size=w.heap.size:=(setCells_same g [a,b,c,d] 0 w).2.2.2
def fromN (n:Nat) (bs:Nat→Nat):Nat:=if n=32 then ofB bs 32%pF else 0
def fromE (n:Nat):Nat:=if n=32 then 0 else 1
theorem from_any (v:Value) (n:Nat) (bs:Nat→Nat) (hbs:∀ j,bs j<256) (w:World) (hv:BytesIn w v n bs) :
 Calls Tryz.prog 100 #[v] w fun e w'=>e = .returned (.tuple #[numV (fromN n bs),.int .i64 (fromE n)])∧Below w.heap.size w w':=by
 unfold fromN fromE
 by_cases h:n=32
 · subst h
   rw [if_pos rfl,if_pos rfl]
   rcases hv with ⟨_,_,h0⟩ | ⟨bb,ob,cap,rfl,h1,h2,h3⟩
   · omega
   · exact from_32 bb ob cap bs hbs w h1 h3
 · rw [if_neg h,if_neg h]
   obtain ⟨xo,c,rfl,-⟩:=hv.src
   exact from_other xo n c h w
end Go.Proofs.YtcgkajlehdgpoaaGreatDoor
namespace Go.Proofs.YtcgkajlehdgpoaaGreatDoor
open Go.RowKit
theorem pF_pos:0<pF:=by decide
def sqN (n k:Nat):Nat:=n ^ (2 ^ k)%pF
theorem sqN_lt (n k:Nat):sqN n k<pF:=Nat.mod_lt _ pF_pos
theorem sqN_zero (n:Nat) (h:n<pF):sqN n 0=n:=by unfold sqN;rw [Nat.pow_zero,Nat.pow_one,Nat.mod_eq_of_lt h]
theorem sqN_step (n k:Nat):sqN n k*sqN n k%pF=sqN n (k+1):=by
 unfold sqN
 rw [←Nat.mul_mod,←Nat.pow_add,Nat.pow_succ,Nat.mul_two]
def NumW (w:World) (g n:Nat):Prop:=FourAt w g (.int .u64 (lw n 0)) (.int .u64 (lw n 1)) (.int .u64 (lw n 2)) (.int .u64 (lw n 3))
theorem NumW.ex {w:World} {g n:Nat} (h:NumW w g n):∃ x0 x1 x2 x3:Nat,numV n = .agg #[.int .u64 x0,.int .u64 x1,.int .u64 x2,.int .u64 x3]∧FourAt w g (.int .u64 x0) (.int .u64 x1) (.int .u64 x2) (.int .u64 x3):=⟨_,_,_,_,rfl,h⟩
set_option maxRecDepth 20000 in
set_option maxHeartbeats 2000000 in
theorem then_any (n m k:Nat) (hn:n<pF) (hm:m<pF) (hk:k<1000) (w:World) :
 Calls Tryz.prog 157 #[numV n,.int .i64 k,.func (.func 126) #[numV m] #[]] w fun e w'=>e = .returned (numV (m*sqN n k%pF))∧Below w.heap.size w w':=by
 have ct:=fun W=>times_any m (sqN n k) hm (sqN_lt n k) W
 obtain ⟨R,hR⟩:∃ R,R=m*sqN n k%pF:=⟨_,rfl⟩
 rw [←hR] at ct ⊢
 obtain ⟨z0,z1,z2,z3,hz⟩:=numV_ex R
 obtain ⟨m0,m1,m2,m3,hmv⟩:=numV_ex m
 rw [hz] at ct ⊢
 rw [hmv] at ct ⊢
 obtain ⟨W,hW⟩:∃ W,W=(w.alloc (.cells #[.int .u64 (lw n 0),.int .u64 (lw n 1),.int .u64 (lw n 2),.int .u64 (lw n 3)] 88)).alloc (.cells #[.int .u64 0,.int .u64 0,.int .u64 0,.int .u64 0] 88):=⟨_,rfl⟩
 have HW:=Hid.mk' hW
 have hWs:W.heap.size=w.heap.size+1+1:=by rw [hW];simp
 have hbW:Below w.heap.size w W:=by rw [hW];exact ((Below.refl _ _).alloc (Nat.le_refl _) _).alloc (by simp) _
 have hA:NumW W w.heap.size (sqN n 0):=by rw [sqN_zero n hn,hW];exact (four_fresh w _ _ _ _ _).below ((Below.refl _ _).alloc (Nat.le_refl _) _) (by simp)
 have hB:FourAt W (w.heap.size+1) (.int .u64 0) (.int .u64 0) (.int .u64 0) (.int .u64 0):=by
  have:=four_fresh (w.alloc (.cells #[.int .u64 (lw n 0),.int .u64 (lw n 1),.int .u64 (lw n 2),.int .u64 (lw n 3)] 88)) (.int .u64 0) (.int .u64 0) (.int .u64 0) (.int .u64 0) 88
  rw [World.size_alloc] at this
  rw [hW];exact this
 unfold numV
 clear hW hR hz hmv
 go_enter Tryz.func157,Tryz.ntmps157
 go_wp2
 rw [←HW.out]
 go_loopw [8] (fun i wr=>∃ q:Nat,q≤k∧i = .int .i64 q∧NumW wr w.heap.size (sqN n q)∧FourAt wr (w.heap.size+1) (.int .u64 0) (.int .u64 0) (.int .u64 0) (.int .u64 0)∧Below w.heap.size w wr∧w.heap.size+1<wr.heap.size) (fun i _=>k - (intOf i).toNat)
 case atStart=>exact ⟨0,Nat.zero_le _,rfl,hA,hB,hbW,by omega⟩
 case round =>
  clear hA hB hbW
  obtain ⟨q,hq,rfl,hA,hB,hb,hs⟩:=hrel
  by_cases hlt:q<k
  · have cs:=times_any (sqN n q) (sqN n q) (sqN_lt n q) (sqN_lt n q) wr
    rw [sqN_step] at cs
    obtain ⟨x0,x1,x2,x3,hx,hA'⟩:=hA.ex
    have hy:∃ y0 y1 y2 y3:Nat,numV (sqN n (q+1)) = .agg #[.int .u64 y0,.int .u64 y1,.int .u64 y2,.int .u64 y3]∧∀ W,FourAt W w.heap.size (.int .u64 y0) (.int .u64 y1) (.int .u64 y2) (.int .u64 y3)→NumW W w.heap.size (sqN n (q+1)):=⟨_,_,_,_,rfl,fun _ h=>h⟩
    obtain ⟨y0,y1,y2,y3,hye,hyn⟩:=hy
    rw [hx,hye] at cs
    obtain ⟨c0,c1,c2,c3,f0,f1,f2,f3⟩:=id hA'
    clear ct hx hye hA
    go_wp2_with (go_at_call 126;refine cs.mono ?_;clear cs;rintro e w1 ⟨rfl,hb1⟩;(have A1:=hA'.below hb1 (by omega));clear c0 c1 c2 c3 f0 f1 f2 f3;obtain ⟨c0,c1,c2,c3,f0,f1,f2,f3⟩:=id A1)
    go_roundw
    case rel =>
     refine ⟨q+1,by omega,by go_num,hyn _ (A1.set _ _ _ _),(hB.below hb1 (by omega)).far (by omega) _ _ _ _,below_set4' (hb.trans (hb1.mono hb.size)) (Nat.le_refl _) _ _ _ _,?_⟩
     show w.heap.size+1<(set4 _ _ _ _ _ _).heap.size
     rw [size_set4];have:=hb1.size;omega
    case measure=>simp [intOf];omega
  · have hqe:q=k:=by omega
    rw [hqe] at hA
    obtain ⟨x0,x1,x2,x3,hx,hA'⟩:=hA.ex
    have ct':=ct wr
    rw [hx] at ct'
    obtain ⟨c0,c1,c2,c3,f0,f1,f2,f3⟩:=id hA'
    clear ct hx hA
    go_wp2_with (go_at_call 126;refine ct'.mono ?_;clear ct';rintro e w1 ⟨rfl,hb1⟩;(have B1:=hB.below hb1 (by omega));(have ht1:=B1.there);clear c0 c1 c2 c3 f0 f1 f2 f3;obtain ⟨c0,c1,c2,c3,f0,f1,f2,f3⟩:=B1)
    (try simp only [Exit.inBlock,Exit.then])
    exact bodyPost_ret (results_set4 Tryz.results157 _ _ _ _ _ _ _ ht1 rfl Tryz.underlying88 rfl (by kernel_rfl)) rfl ⟨rfl,below_set4 (hb.trans (hb1.mono hb.size)) (by omega) _ _ _ _⟩
end Go.Proofs.YtcgkajlehdgpoaaGreatDoor
