/- What the proof stands on: L5A, L5B, L5C, L5E. -/
import Derived.Test.YtbbikhlbkpjpjaaGreatDoorD1CBM
import Derived.Test.YtbbikhlbkpjpjaaGreatDoorQAppM
import Derived.Test.YtbbikhlbkpjpjaaGreatDoorR8TM
import Derived.Lib.AppendStr
namespace Go.Proofs.YtbbikhlbkpjpjaaGreatDoor
open Go.RowKit
theorem conv_as (ty:TypeId) (hu:Tryz.prog.underlying ty=some .string) (w:World) (l:List Nat) (h:∀ x,x∈l→x<256):∃ c W,(convert ty 22 (.string (strL l))).run Tryz.prog w = .ok (.slice (some ⟨w.heap.size,0,none⟩) l.length c) W∧BytesIn W (.slice (some ⟨w.heap.size,0,none⟩) l.length c) l.length (litB l)∧Below w.heap.size w W:=by
 have hs:(strL l).size=l.length:=by simp [strL,ByteArray.size]
 have hr:=Lib.run_convert_string_bytes (P:=Tryz.prog) w ty 22 5 (strL l) hu Tryz.underlying22 Tryz.underlying5
 rw [hs] at hr
 refine ⟨_,_,hr,.inr ⟨w.heap.size,0,_,rfl,by rw [Lib.bytesWorld_size];exact Nat.lt_succ_self _,grownCap_ge _ _ _ _,fun j hj => ?_⟩,⟨by simp [Lib.bytesWorld,World.freeze,World.alloc,World.drew,-World.alloc_eq,-World.drew_eq],by simp [Lib.bytesWorld,World.freeze,World.alloc,World.drew,-World.alloc_eq,-World.drew_eq],by simp [Lib.bytesWorld,World.freeze,World.alloc,World.drew,-World.alloc_eq,-World.drew_eq],by rw [Lib.bytesWorld_size];exact Nat.le_succ _,fun k hk=>Lib.bytesWorld_at_old _ _ _ k hk⟩⟩
 have hx:=h _ (List.getElem_mem hj)
 have e:((strL l).data.toList.getD j 0).toNat=litB l j:=by simp [strL,litB,hj,Nat.mod_eq_of_lt hx]
 rw [Nat.zero_add,Lib.bytesWorld_cell w _ _ j (by rw [hs];exact hj),e]
theorem joined_any (gp cnt m:Nat) (t:Nat→Nat) (hcnt:cnt<1000000) (hm:m<140737488355000) (w:World) (hP:Parts w gp cnt m t) :
 Calls Tryz.prog 87 #[.slice (some ⟨gp,0,none⟩) cnt cnt] w fun e w'=>∃ s,e = .returned s∧Own w.heap.size w' s m t∧Below w.heap.size w w':=by
 obtain ⟨pvs,L,p0,p1,p2⟩:=hP
 have P2:=Hid.mk' p2
 clear p2
 go_enter Tryz.func87,Tryz.ntmps87
 go_wp2
 go_loopw [3,8] (fun o i wr=>∃ k B:Nat,k≤cnt∧Hid (B=L k)∧i = .int .i64 (k:Int)∧(∃ xo co,o = .slice xo B co∧Own w.heap.size wr (.slice xo B co) B t)∧Below w.heap.size w wr) (fun _ i _=>cnt - (intOf i).toNat)
 case atStart=>exact ⟨0,0,Nat.zero_le _,Hid.mk' p0.symm,by go_num,⟨none,0,rfl,Own.nil _ _ _⟩,Below.refl _ _⟩
 case round =>
  obtain ⟨k,B,hk,HB,rfl,⟨xo,co,rfl,own⟩,hb⟩:=hrel
  by_cases hlt:k<cnt
  · obtain ⟨c1,c2,c3,c4⟩:=P2.out k hlt
    obtain ⟨xs,cs,hp,hxn,-,hsrc⟩:=c4.src
    have hc:wr.cell? ⟨gp,k,none⟩=some (.slice xs (L (k+1) - L k) cs):=by
     rw [←hp]
     exact (hb.cell (p:=⟨gp,k,none⟩) (block_lt_of_cell c1)).trans c1
    have hs:=hsrc wr hb
    obtain ⟨D,hD⟩:∃ D,D=L (k+1) - L k:=⟨_,rfl⟩
    have hl:B+D=L (k+1):=by have:=HB.out;omega
    have hlm:B+D≤140737488355328:=by omega
    have hcg:∀ q,q<B+D→cat B t (fun j=>t (L k+j)) q=t q:=fun q hq=>by
     have:=HB.out
     unfold cat
     by_cases e:q<B
     · rw [if_pos e]
     · rw [if_neg e]
       show t (L k+(q - B))=t q
       rw [show L k+(q - B)=q by omega]
    obtain ⟨Y,hY⟩:∃ Y:Nat→Nat,Y=fun j=>t (L k+j):=⟨_,rfl⟩
    rw [←hD] at hc hs
    rw [←hY] at hs hcg
    have hki:(k:Int)<cnt:=by omega
    have Hl:Hid (B+D=L (k+1)):=hl
    clear c1 c2 c3 c4 hp hsrc hD hl hY p0 p1
    go_wp2_with (at_builtin;refine wpList_append_bytes rfl (.tmp 12) (.tmp 13) rfl w.heap.size _ B t rfl own xs D cs Y rfl hs hxn hlm hb.size ?_;intro v7 w7 own7 hg7;have hb7:=Own.grown hb hg7 own (Nat.le_refl _) hb.size)
    have own8:Own w.heap.size w7 v7 (B+D) t:=own7.congr hcg
    obtain ⟨x7,c7,hv7⟩:=own8.slice
    subst hv7
    clear own own7
    go_wp2
    go_roundw
    case rel=>exact ⟨k+1,B+D,by omega,Hid.mk' Hl.out,by go_num,⟨x7,c7,rfl,own8⟩,hb7⟩
    case measure=>show cnt - ((k:Int)+1).toNat<cnt - (k:Int).toNat;omega
  · have hqe:k=cnt:=by omega
    subst hqe
    have hB:=HB.out
    rw [p1] at hB
    subst hB
    go_wp2
    go_ret
    exact ⟨_,rfl,own,hb⟩
theorem plain_any (l:List Nat) (h:∀ x,x∈l→x<256) (w:World) :
 Calls Tryz.prog 114 #[.string (strL l)] w fun e w'=>∃ s,e = .returned s∧BytesIn w' s l.length (litB l)∧Below w.heap.size w w':=by
 obtain ⟨c,W,hc,hB,hb⟩:=conv_as 138 Tryz.underlying138 w l h
 obtain ⟨S,hS⟩:∃ S,S=strL l:=⟨_,rfl⟩
 rw [←hS] at hc ⊢
 clear hS
 go_enter Tryz.func114,Tryz.ntmps114
 go_wp2_with (rw [hc])
 go_ret
 exact ⟨_,rfl,hB,hb⟩
def lMls:List Nat:=[77,76,83,32,49,46,48,32]
theorem lMls_lt:∀ x,x∈lMls→x<256:=by decide
theorem litB_app (l r:List Nat) (j:Nat):litB (l ++ r) j=cat l.length (litB l) (litB r) j:=by
 unfold litB cat
 rw [List.getD_eq_getElem?_getD,List.getElem?_append]
 by_cases h:j<l.length
 · rw [if_pos h,if_pos h]
   exact (List.getD_eq_getElem?_getD ..).symm
 · rw [if_neg h,if_neg h]
   exact (List.getD_eq_getElem?_getD ..).symm
theorem versioned_any (l:List Nat) (h:∀ x,x∈l→x<256) (hl:l.length<140737488354000) (w:World) :
 Calls Tryz.prog 97 #[.string (strL l)] w fun e w'=>∃ s,e = .returned s∧Own w.heap.size w' s (8+l.length) (litB (lMls ++ l))∧Below w.heap.size w w':=by
 have hc:(convert 22 22 (.slice (some ⟨w.heap.size,0,none⟩) 8 8)).run Tryz.prog (w.alloc (.cells #[.int .u8 77,.int .u8 76,.int .u8 83,.int .u8 32,.int .u8 49,.int .u8 46,.int .u8 48,.int .u8 32] 5)) = .ok (.slice (some ⟨w.heap.size,0,none⟩) 8 8) (w.alloc (.cells #[.int .u8 77,.int .u8 76,.int .u8 83,.int .u8 32,.int .u8 49,.int .u8 46,.int .u8 48,.int .u8 32] 5 (8,9))):=convC w lMls
 have hb1:Below w.heap.size w (w.alloc (.cells #[.int .u8 77,.int .u8 76,.int .u8 83,.int .u8 32,.int .u8 49,.int .u8 46,.int .u8 48,.int .u8 32] 5 (8,9))):=(Below.refl _ _).alloc (Nat.le_refl _) _
 have hB1:BytesIn (w.alloc (.cells #[.int .u8 77,.int .u8 76,.int .u8 83,.int .u8 32,.int .u8 49,.int .u8 46,.int .u8 48,.int .u8 32] 5 (8,9))) (.slice (some ⟨w.heap.size,0,none⟩) 8 8) 8 (litB lMls):=litB_B w lMls (8,9)
 obtain ⟨W1,hW1⟩:∃ W,W=w.alloc (.cells #[.int .u8 77,.int .u8 76,.int .u8 83,.int .u8 32,.int .u8 49,.int .u8 46,.int .u8 48,.int .u8 32] 5 (8,9)):=⟨_,rfl⟩
 rw [←hW1] at hc hb1 hB1
 have hpl:=plain_any l h W1
 have hjo:=fun (W:World) (x:Option Addr) (c:Nat) (hB:BytesIn W (.slice (some ⟨w.heap.size,0,none⟩) 8 8) 8 (litB lMls)) (hx:BytesIn W (.slice x l.length c) l.length (litB l)) =>
  joined_any W.heap.size 2 (8+l.length) (litB (lMls ++ l)) (by decide) (by omega) _ ((parts_two W (.slice (some ⟨w.heap.size,0,none⟩) 8 8) (.slice x l.length c) 8 l.length (litB lMls) (litB l) 22 hB hx).congr (fun j _=>(litB_app lMls l j).symm))
 obtain ⟨S,hS⟩:∃ S,S=strL l:=⟨_,rfl⟩
 rw [←hS] at hpl ⊢
 clear hS hW1
 go_enter Tryz.func97,Tryz.ntmps97
 go_wp2_with (first
  | rw [hc]
  | (go_at_call 114;refine hpl.mono ?_;clear hpl;rintro e w2 ⟨s2,rfl,hB2,hb2⟩;(obtain ⟨x2,c2,hs2,-,-,-⟩:=hB2.src);subst hs2;have b2:=below_next hb1 hb2;have b3:=b2.alloc b2.size (.cells #[.slice (some ⟨w.heap.size,0,none⟩) 8 8,.slice x2 l.length c2] 22))
  | (go_at_call 87;refine (hjo w2 x2 c2 (hB1.keep hb2) hB2).mono ?_;clear hjo;rintro e w4 ⟨s4,rfl,own4,hb4⟩))
 go_ret
 exact ⟨s4,rfl,own4.lower b3.size,below_next b3 hb4⟩
end Go.Proofs.YtbbikhlbkpjpjaaGreatDoor
namespace Go.Proofs.YtbbikhlbkpjpjaaGreatDoor
open Go.RowKit
def pn2 (a b:Nat):Nat→Nat:=fun i=>if i=0 then a else b
def pb2 (A B:Nat→Nat):Nat→Nat→Nat:=fun i=>if i=0 then A else B
def v2L (a b:Nat):Nat:=vsL (pn2 a b) 2
def v2B (a:Nat) (A:Nat→Nat) (b:Nat) (B:Nat→Nat):Nat→Nat:=vsB (pn2 a b) (pb2 A B) 2
theorem v2L_le (a b:Nat):v2L a b≤a+b+8:=by
 have h:=vsL_le (pn2 a b) 2
 have e:sumN (pn2 a b) 2=0+a+b:=rfl
 unfold v2L
 omega
theorem v2B_lt {a b:Nat} {A B:Nat→Nat} (hA:∀ j,A j<256) (hB:∀ j,B j<256) (j:Nat):v2B a A b B j<256 :=
 allB_lt (pb:=fun i=>vcB (pn2 a b i) (pb2 A B i)) (fun i j=>cat_lt (fun j=>beN_lt _ _ j) (fun j=>by unfold pb2;split;exact hA j;exact hB j) j) 2 j
theorem pieces_two (w:World) (v u:Value) (a b:Nat) (A B:Nat→Nat) (ty:TypeId) (h1:BytesIn w v a A) (h2:BytesIn w u b B) (hA:∀ j,A j<256) (hB:∀ j,B j<256):PiecesIn (w.alloc (.cells #[v,u] ty)) (some ⟨w.heap.size,0,none⟩) 2 (fun i=>if i=0 then v else u) (pn2 a b) (pb2 A B):=by
 have b0:=(Below.refl _ w).alloc (Nat.le_refl _) (.cells #[v,u] ty)
 refine ⟨fun q _=>⟨w.heap.size,0,rfl,fun i hi => ?_⟩,fun i hi => ?_,fun i j=>by unfold pb2;split;exact hA j;exact hB j⟩
 · rcases (show i=0∨i=1 by omega) with rfl | rfl
   · simp
   · simp
 · rcases (show i=0∨i=1 by omega) with rfl | rfl
   · exact h1.keep b0
   · exact h2.keep b0
theorem cVecs_two (w:World) (v u:Value) (a b:Nat) (A B:Nat→Nat) (h1:BytesIn w v a A) (h2:BytesIn w u b B) (hA:∀ j,A j<256) (hB:∀ j,B j<256) (ha:a≤65536) (hb:b≤65536) :
 Calls Tryz.prog 113 #[.slice (some ⟨w.heap.size,0,none⟩) 2 2] (w.alloc (.cells #[v,u] 22)) fun e w'=>∃ s,e = .returned (.tuple #[s,.int .i64 0])∧Own (w.heap.size+1) w' s (v2L a b) (v2B a A b B)∧Below (w.heap.size+1) (w.alloc (.cells #[v,u] 22)) w':=by
 have hbig:bigN (pn2 a b) 2=false:=by simp [bigN,pn2];omega
 have h:=cVecs_good (some ⟨w.heap.size,0,none⟩) 2 2 _ (pn2 a b) (pb2 A B) hbig (by decide) (by show 0+a+b≤_;omega) _ (pieces_two w v u a b A B 22 h1 h2 hA hB)
 rw [World.size_alloc] at h
 unfold v2L v2B
 exact h
theorem strL_size (l:List Nat):(strL l).size=l.length:=by simp [strL,ByteArray.size]
theorem mls_lt {l:List Nat} (h:∀ x,x∈l→x<256):∀ x,x∈lMls ++ l→x<256:=by
 intro x hx
 rcases List.mem_append.1 hx with h1 | h1
 · exact lMls_lt x h1
 · exact h x h1
theorem ahead_versioned (l:List Nat) (h:∀ x,x∈l→x<256) (hl:l.length≤65528) (v:Value) (n:Nat) (bs:Nat→Nat) (hbs:∀ j,bs j<256) (hn:n≤65528) (w:World) (hv:BytesIn w v n bs) :
 Calls Tryz.prog 96 #[.string (strL l),.func (.func 97) #[.string (strL l)] #[],v] w fun e w'=>∃ s,e = .returned (.tuple #[s,.int .i64 0])∧Own w.heap.size w' s (v2L (8+l.length) n) (v2B (8+l.length) (litB (lMls ++ l)) n bs)∧Below w.heap.size w w':=by
 obtain ⟨xv,cv,rfl,-,-,-⟩:=hv.src
 have hpl:=versioned_any l h (by omega) w
 have hve:=fun (W:World) (x:Option Addr) (c:Nat) (hb:Below w.heap.size w W) (hx:BytesIn W (.slice x (8+l.length) c) (8+l.length) (litB (lMls ++ l))) =>
  cVecs_two W (.slice x (8+l.length) c) (.slice xv n cv) (8+l.length) n (litB (lMls ++ l)) bs hx (hv.keep hb) (litB_lt (mls_lt h)) hbs (by omega) (by omega)
 have hsz:=strL_size l
 obtain ⟨S,hS⟩:∃ S,S=strL l:=⟨_,rfl⟩
 rw [←hS] at hpl hsz ⊢
 obtain ⟨T,hT⟩:∃ T,T=v2L (8+l.length) n:=⟨_,rfl⟩
 obtain ⟨F,hF⟩:∃ F,F=v2B (8+l.length) (litB (lMls ++ l)) n bs:=⟨_,rfl⟩
 rw [←hT,←hF] at hve ⊢
 obtain ⟨K,hK⟩:∃ K,K=(8+l.length):=⟨_,rfl⟩
 rw [←hK] at hpl hve
 have h1:¬(65528:Int)<(S.size:Int):=by rw [hsz];omega
 have h2:¬(65528:Int)<(n:Int):=by omega
 clear hS hT hF hK hsz
 go_enter Tryz.func96,Tryz.ntmps96
 go_wp2_with (first
  | (go_at_call 97;refine hpl.mono ?_;clear hpl;rintro e w2 ⟨s2,rfl,hB2,hb2⟩;have hB2:=hB2.bytesIn;(obtain ⟨x2,c2,hs2,-,-,-⟩:=hB2.src);subst hs2;have b3:=hb2.alloc hb2.size (.cells #[.slice x2 K c2,.slice xv n cv] 22))
  | (go_at_call 113;refine (hve w2 x2 c2 hb2 hB2).mono ?_;clear hve;rintro e w4 ⟨s4,rfl,own4,hb4⟩))
 go_ret2
 exact ⟨s4,rfl,own4.lower (Nat.le_succ_of_le hb2.size),below_next b3 (by rw [World.size_alloc];exact hb4)⟩
theorem labelled_good (l:List Nat) (h:∀ x,x∈l→x<256) (hl:l.length≤65528) (v:Value) (n:Nat) (bs:Nat→Nat) (hbs:∀ j,bs j<256) (hn:n≤65528) (w:World) (hv:BytesIn w v n bs) :
 Calls Tryz.prog 84 #[.string (strL l),v] w fun e w'=>∃ s,e = .returned (.tuple #[s,.int .i64 0])∧Own w.heap.size w' s (v2L (8+l.length) n) (v2B (8+l.length) (litB (lMls ++ l)) n bs)∧Below w.heap.size w w':=by
 have ha:=ahead_versioned l h hl v n bs hbs hn w hv
 obtain ⟨S,hS⟩:∃ S,S=strL l:=⟨_,rfl⟩
 obtain ⟨T,hT⟩:∃ T,T=v2L (8+l.length) n:=⟨_,rfl⟩
 obtain ⟨F,hF⟩:∃ F,F=v2B (8+l.length) (litB (lMls ++ l)) n bs:=⟨_,rfl⟩
 rw [←hS,←hT,←hF] at ha ⊢
 clear hS hT hF hv
 go_enter Tryz.func84,Tryz.ntmps84
 go_wp2_with (go_at_call 96;refine ha.mono ?_;clear ha;rintro e w2 ⟨s2,rfl,own2,hb2⟩)
 go_ret2
 exact ⟨s2,rfl,own2,hb2⟩
end Go.Proofs.YtbbikhlbkpjpjaaGreatDoor
namespace Go.Proofs.YtbbikhlbkpjpjaaGreatDoor
open Go.RowKit
def exT (l:List Nat) (n:Nat) (bs:Nat→Nat) (N:Nat):Nat→Nat:=cat 2 (beN N 2) (v2B (8+l.length) (litB (lMls ++ l)) n bs)
def exL (l:List Nat) (n:Nat):Nat:=2+v2L (8+l.length) n
def exN (sn:Nat) (ks:Nat→Nat) (l:List Nat) (n:Nat) (bs:Nat→Nat) (N:Nat):Nat→Nat:=outF (keyB sn ks) (exL l n) (exT l n bs N) N
theorem row5 {w:World} {g n:Nat} {X:Nat→Nat} (h:RowAt .u8 w g 0 n X):BytesIn w (.slice (some ⟨g,0,none⟩) n n) n X:=by
 by_cases e:n=0
 · subst e
   exact .inl ⟨_,rfl,rfl⟩
 · exact .inr ⟨g,0,n,rfl,block_lt_of_cell (h 0 (by omega)).1,Nat.le_refl _,fun j hj=>(h j hj).1⟩
theorem exT_lt (l:List Nat) (h:∀ x,x∈l→x<256) (n:Nat) (bs:Nat→Nat) (hbs:∀ j,bs j<256) (N:Nat) (j:Nat):exT l n bs N j<256 :=
 cat_lt (fun j=>beN_lt _ _ j) (v2B_lt (litB_lt (mls_lt h)) hbs) j
theorem exL_le (l:List Nat) (n:Nat) (hl:l.length≤65528) (hn:n≤65528):exL l n≤200000:=by
 have:=v2L_le (8+l.length) n
 unfold exL
 omega
theorem cExpand_good (l:List Nat) (h:∀ x,x∈l→x<256) (hl:l.length≤65528) (sv cv:Value) (sn n:Nat) (ks bs:Nat→Nat) (hks:∀ j,ks j<256) (hbs:∀ j,bs j<256) (hsn:sn<140737488355000) (hn:n≤65528) (N:Nat) (hN:N≤8160) (w:World) (hT:HTab w cubeK squareK) (h1:BytesIn w sv sn ks) (h2:BytesIn w cv n bs) :
 Calls Tryz.prog 73 #[sv,.string (strL l),cv,.int .i64 N] w fun e w'=>∃ s,e = .returned (.tuple #[s,.int .i64 0])∧BytesIn w' s N (exN sn ks l n bs N)∧Below w.heap.size w w':=by
 have hla:=labelled_good l h hl cv n bs hbs hn w h2
 have hnu:=fun W=>cNum11_good N 2 (by decide) (by show N<65536;omega) W
 have hle:=exL_le l n hl hn
 have hjo:=fun (W:World) (x y:Option Addr) (c d:Nat) (hx:BytesIn W (.slice x 2 c) 2 (beN N 2)) (hy:BytesIn W (.slice y (v2L (8+l.length) n) d) (v2L (8+l.length) n) (v2B (8+l.length) (litB (lMls ++ l)) n bs)) =>
  joined_any W.heap.size 2 (exL l n) (exT l n bs N) (by decide) (by omega) _ (parts_two W (.slice x 2 c) (.slice y (v2L (8+l.length) n) d) 2 (v2L (8+l.length) n) (beN N 2) (v2B (8+l.length) (litB (lMls ++ l)) n bs) 22 hx hy)
 obtain ⟨xs,cs,rfl,-,-,-⟩:=h1.src
 have hex:=fun (W:World) (y:Option Addr) (d:Nat) (hb:Below w.heap.size w W) (hy:BytesIn W (.slice y (exL l n) d) (exL l n) (exT l n bs N)) =>
  expand_any xs y sn (exL l n) cs d ks (exT l n bs N) hks (exT_lt l h n bs hbs N) (by omega) (by omega) W (hT.below hb hT.size) (h1.keep hb) hy N hN
 obtain ⟨S,hS⟩:∃ S,S=strL l:=⟨_,rfl⟩
 obtain ⟨T,hT1⟩:∃ T,T=v2L (8+l.length) n:=⟨_,rfl⟩
 obtain ⟨F,hF⟩:∃ F,F=v2B (8+l.length) (litB (lMls ++ l)) n bs:=⟨_,rfl⟩
 obtain ⟨L,hL⟩:∃ L,L=exL l n:=⟨_,rfl⟩
 obtain ⟨G,hG⟩:∃ G,G=exT l n bs N:=⟨_,rfl⟩
 obtain ⟨E,hE⟩:∃ E,E=outF (keyB sn ks) L G N:=⟨_,rfl⟩
 have hE2:exN sn ks l n bs N=E:=by rw [hE,hL,hG];rfl
 rw [hE2]
 rw [←hS] at hla ⊢
 rw [←hT1,←hF] at hla hjo
 rw [←hL,←hG] at hjo hex
 rw [←hE] at hex
 clear hS hT1 hF hL hG hE hE2 hle h1 h2
 go_enter Tryz.func73,Tryz.ntmps73
 go_wp2_with (first
  | (go_at_call 84;refine hla.mono ?_;clear hla;rintro e w1 ⟨s1,rfl,own1,b1⟩;have B1:=own1.bytesIn;(obtain ⟨x1,c1,hs1,-,-,-⟩:=B1.src);subst hs1)
  | (go_at_call 85;refine (hnu _).mono ?_;clear hnu;rintro e w2 ⟨s2,rfl,B2,hb2⟩;(obtain ⟨x2,c2,hs2,-,-,-⟩:=B2.src);subst hs2;have b2:=below_next b1 hb2;replace B1:=B1.keep hb2;have b3:=b2.alloc b2.size (.cells #[.slice x2 2 c2,.slice x1 T c1] 22))
  | (go_at_call 87;refine (hjo w2 x2 x1 c2 c1 B2 B1).mono ?_;clear hjo;rintro e w4 ⟨s4,rfl,own4,hb4⟩;have B4:=own4.bytesIn;(obtain ⟨x4,c4,hs4,-,-,-⟩:=B4.src);subst hs4;have b4:=below_next b3 hb4)
  | (go_at_call 86;refine (hex w4 x4 c4 b4 B4).mono ?_;clear hex;rintro e w5 ⟨g5,rfl,hg5,r5,hb5⟩))
 go_ret2
 exact ⟨_,rfl,row5 r5,below_next b4 hb5⟩
end Go.Proofs.YtbbikhlbkpjpjaaGreatDoor
namespace Go.Proofs.YtbbikhlbkpjpjaaGreatDoor
open Go.RowKit
theorem HTab.still5 {w w':World} {K q:Nat→Nat} (h:HTab w K q) (hb:Below w.heap.size w w'):HTab w' K q:=h.below hb h.size
structure TabAt (w:World):Prop where
 h:HTab w cubeK squareK
theorem TabAt.still {w w':World} (h:TabAt w) (hb:Below w.heap.size w w'):TabAt w':=⟨h.h.still5 hb⟩
structure LntAt (W:World) (g cap n:Nat) (bs:Nat→Nat):Prop where
 cap:n+2≤cap
 row:RowAt .u8 W g 0 (n+2) (cat n bs room)
theorem LntAt.still {W W':World} {g cap n:Nat} {bs:Nat→Nat} (h:LntAt W g cap n bs) (hb:Below W.heap.size W W'):LntAt W' g cap n bs:=⟨h.cap,h.row.below hb (block_lt_of_cell (h.row 0 (by omega)).1)⟩
theorem LntAt.bytes {W:World} {g cap n:Nat} {bs:Nat→Nat} (h:LntAt W g cap n bs):BytesIn W (.slice (some ⟨g,0,none⟩) n cap) n bs :=
 .inr ⟨g,0,cap,rfl,block_lt_of_cell (h.row 0 (by omega)).1,Nat.le_trans (Nat.le_add_right _ _) h.cap,fun j hj=>by
  have e:=(h.row j (by omega)).1
  rw [cat_left hj] at e
  exact e⟩
structure Cs (W:World) (v:Value) (S:ByteArray):Prop where
 conv:∀ w,Below W.heap.size W w→(convert 22 9 v).run Tryz.prog w = .ok (.string S) w
theorem Cs.still {W W':World} {v:Value} {S:ByteArray} (h:Cs W v S) (hb:Below W.heap.size W W'):Cs W' v S:=⟨fun w hw=>h.conv w (below_next hb hw)⟩
theorem BytesIn.cs {W:World} {v:Value} {n:Nat} {X:Nat→Nat} (h:BytesIn W v n X) (hX:∀ j,X j<256):Cs W v (strB n X):=⟨fun w hw=>h.conv hX w hw⟩
theorem outF_lt5 (kv:Nat→Nat) (m:Nat) (info:Nat→Nat) (a j:Nat):outF kv m info a j<256:=by
 unfold outF
 split
 · exact tE_lt _ _ _ _ _
 · decide
theorem exN_lt (sn:Nat) (ks:Nat→Nat) (l:List Nat) (n:Nat) (bs:Nat→Nat) (N j:Nat):exN sn ks l n bs N j<256:=outF_lt5 _ _ _ _ _
end Go.Proofs.YtbbikhlbkpjpjaaGreatDoor
