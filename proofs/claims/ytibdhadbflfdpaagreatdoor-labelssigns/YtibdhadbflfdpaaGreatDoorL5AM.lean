/- What the proof stands on: L5A, L5B, L5C, L5D, L5N, L5E, LRow. -/
import Derived.Test.YtibdhadbflfdpaaGreatDoorD1RBM
import Derived.Test.YtibdhadbflfdpaaGreatDoorLentM
import Derived.Test.YtibdhadbflfdpaaGreatDoorNNumM
import Derived.Test.YtibdhadbflfdpaaGreatDoorQAppM
import Derived.Test.YtibdhadbflfdpaaGreatDoorWordsM
import Derived.Lib.AppendStr
namespace Go.Proofs.YtibdhadbflfdpaaGreatDoor
open Nat renaming le_refl → JW
open Go renaming block_lt_of_cell → J5
open Go.RowKit
theorem Ed (ty:TypeId) (hu:Tryz.prog.underlying ty=some .string) (w:World) (l:List Nat) (h:∀ x,x∈l→x<256):∃ c W,(convert ty 22 (.string (bg l))).run Tryz.prog w = .ok (.slice (some ⟨w.heap.size,0,none⟩) l.length c) W∧ae W (.slice (some ⟨w.heap.size,0,none⟩) l.length c) l.length (bm l)∧Below w.heap.size w W:=by
 have hs:(bg l).size=l.length:=by simp [bg,ByteArray.size]
 have hr:=Lib.run_convert_string_bytes (P:=Tryz.prog) w ty 22 5 (bg l) hu Tryz.underlying22 Tryz.underlying5;rw [hs] at hr;refine ⟨_,_,hr,.inr ⟨w.heap.size,0,_,rfl,by rw [Lib.bytesWorld_size];exact Nat.lt_succ_self _,grownCap_ge _ _ _ _,fun j hj => ?_⟩,⟨by simp [Lib.bytesWorld,World.freeze,World.alloc,World.drew,-World.alloc_eq,-World.drew_eq],by simp [Lib.bytesWorld,World.freeze,World.alloc,World.drew,-World.alloc_eq,-World.drew_eq],by simp [Lib.bytesWorld,World.freeze,World.alloc,World.drew,-World.alloc_eq,-World.drew_eq],by rw [Lib.bytesWorld_size];exact Nat.le_succ _,fun k hk=>Lib.bytesWorld_at_old _ _ _ k hk⟩⟩;have hx:=h _ (List.getElem_mem hj)
 have e:((bg l).data.toList.getD j 0).toNat=bm l j:=by simp [bg,bm,hj,Nat.mod_eq_of_lt hx]
 rw [Nat.zero_add,Lib.bytesWorld_cell w _ _ j (by rw [hs];exact hj),e]
theorem oI (gp cnt m:Nat) (t:Nat→Nat) (hcnt:cnt<1000000) (hm:m<140737488355000) (w:World) (hP:fe w gp cnt m t) :
 Calls Tryz.prog 65 #[.slice (some ⟨gp,0,none⟩) cnt cnt] w fun e w'=>∃ s,e = .returned s∧bx w.heap.size w' s m t∧Below w.heap.size w w':=by
 obtain ⟨pvs,L,p0,p1,p2⟩:=hP;have P2:=Hid.mk' p2;clear p2;go_enter Tryz.func65,Tryz.ntmps65;go_wp2;go_loopw [3,8] (fun o i wr=>∃ k B:Nat,k≤cnt∧Hid (B=L k)∧i = .int .i64 (k:Int)∧(∃ xo co,o = .slice xo B co∧bx w.heap.size wr (.slice xo B co) B t)∧Below w.heap.size w wr) (fun _ i _=>cnt - (intOf i).toNat)
 case atStart=>exact ⟨0,0,Nat.zero_le _,Hid.mk' p0.symm,by go_num,⟨none,0,rfl,bx.nil _ _ _⟩,Below.refl _ _⟩
 case round =>
  obtain ⟨k,B,hk,HB,rfl,⟨xo,co,rfl,own⟩,hb⟩:=hrel
  by_cases hlt:k<cnt
  · obtain ⟨c1,c2,c3,c4⟩:=P2.out k hlt
    obtain ⟨xs,cs,hp,hxn,-,hsrc⟩:=c4.src
    have hc:wr.cell? ⟨gp,k,none⟩=some (.slice xs (L (k+1) - L k) cs):=by
     rw [←hp];exact (hb.cell (p:=⟨gp,k,none⟩) (J5 c1)).trans c1
    have hs:=hsrc wr hb
    obtain ⟨D,hD⟩:∃ D,D=L (k+1) - L k:=⟨_,rfl⟩
    have hl:B+D=L (k+1):=by have:=HB.out;omega
    have hlm:B+D≤140737488355328:=by omega
    have hcg:∀ q,q<B+D→bu B t (fun j=>t (L k+j)) q=t q:=fun q hq=>by
     have:=HB.out;unfold bu
     by_cases e:q<B
     · rw [if_pos e]
     · rw [if_neg e]
       show t (L k+(q - B))=t q;rw [show L k+(q - B)=q by omega]
    obtain ⟨Y,hY⟩:∃ Y:Nat→Nat,Y=fun j=>t (L k+j):=⟨_,rfl⟩
    rw [←hD] at hc hs;rw [←hY] at hs hcg
    have hki:(k:Int)<cnt:=by omega
    have Hl:Hid (B+D=L (k+1)):=hl;clear c1 c2 c3 c4 hp hsrc hD hl hY p0 p1;go_wp2_with (at_builtin;refine aR rfl (.tmp 12) (.tmp 13) rfl w.heap.size _ B t rfl own xs D cs Y rfl hs hxn hlm hb.size ?_;intro v7 w7 own7 hg7;have hb7:=bx.grown hb hg7 own (JW _) hb.size);have own8:bx w.heap.size w7 v7 (B+D) t:=own7.congr hcg;obtain ⟨x7,c7,hv7⟩:=own8.slice;subst hv7;clear own own7;go_wp2;go_roundw
    case rel=>exact ⟨k+1,B+D,by omega,Hid.mk' Hl.out,by go_num,⟨x7,c7,rfl,own8⟩,hb7⟩
    case measure=>show cnt - ((k:Int)+1).toNat<cnt - (k:Int).toNat;omega
  · have hqe:k=cnt:=by omega
    subst hqe;have hB:=HB.out;rw [p1] at hB;subst hB;go_wp2;go_ret;exact ⟨_,rfl,own,hb⟩
theorem qD (l:List Nat) (h:∀ x,x∈l→x<256) (w:World) :
 Calls Tryz.prog 86 #[.string (bg l)] w fun e w'=>∃ s,e = .returned s∧ae w' s l.length (bm l)∧Below w.heap.size w w':=by
 obtain ⟨c,W,hc,hB,hb⟩:=Ed 46 Tryz.underlying46 w l h
 obtain ⟨S,hS⟩:∃ S,S=bg l:=⟨_,rfl⟩
 rw [←hS] at hc ⊢;clear hS;go_enter Tryz.func86,Tryz.ntmps86;go_wp2_with (rw [hc]);go_ret;exact ⟨_,rfl,hB,hb⟩
def dB:List Nat:=[77,76,83,32,49,46,48,32]
theorem Es:∀ x,x∈dB→x<256:=by decide
theorem CA (l r:List Nat) (j:Nat):bm (l ++ r) j=bu l.length (bm l) (bm r) j:=by
 unfold bm bu;rw [List.getD_eq_getElem?_getD,List.getElem?_append]
 by_cases h:j<l.length
 · rw [if_pos h,if_pos h]
   exact (List.getD_eq_getElem?_getD ..).symm
 · rw [if_neg h,if_neg h]
   exact (List.getD_eq_getElem?_getD ..).symm
theorem pD (l:List Nat) (h:∀ x,x∈l→x<256) (hl:l.length<140737488354000) (w:World) :
 Calls Tryz.prog 41 #[.string (bg l)] w fun e w'=>∃ s,e = .returned s∧bx w.heap.size w' s (8+l.length) (bm (dB ++ l))∧Below w.heap.size w w':=by
 have hc:(convert 22 22 (.slice (some ⟨w.heap.size,0,none⟩) 8 8)).run Tryz.prog (w.alloc (.cells #[.int .u8 77,.int .u8 76,.int .u8 83,.int .u8 32,.int .u8 49,.int .u8 46,.int .u8 48,.int .u8 32] 5)) = .ok (.slice (some ⟨w.heap.size,0,none⟩) 8 8) (w.alloc (.cells #[.int .u8 77,.int .u8 76,.int .u8 83,.int .u8 32,.int .u8 49,.int .u8 46,.int .u8 48,.int .u8 32] 5 (8,9))):=Jc w dB;have hb1:Below w.heap.size w (w.alloc (.cells #[.int .u8 77,.int .u8 76,.int .u8 83,.int .u8 32,.int .u8 49,.int .u8 46,.int .u8 48,.int .u8 32] 5 (8,9))):=(Below.refl _ _).alloc (JW _) _;have hB1:ae (w.alloc (.cells #[.int .u8 77,.int .u8 76,.int .u8 83,.int .u8 32,.int .u8 49,.int .u8 46,.int .u8 48,.int .u8 32] 5 (8,9))) (.slice (some ⟨w.heap.size,0,none⟩) 8 8) 8 (bm dB):=GH w dB (8,9)
 obtain ⟨W1,hW1⟩:∃ W,W=w.alloc (.cells #[.int .u8 77,.int .u8 76,.int .u8 83,.int .u8 32,.int .u8 49,.int .u8 46,.int .u8 48,.int .u8 32] 5 (8,9)):=⟨_,rfl⟩
 rw [←hW1] at hc hb1 hB1;have hpl:=qD l h W1
 have hjo:=fun (W:World) (x:Option Addr) (c:Nat) (hB:ae W (.slice (some ⟨w.heap.size,0,none⟩) 8 8) 8 (bm dB)) (hx:ae W (.slice x l.length c) l.length (bm l)) =>
  oI W.heap.size 2 (8+l.length) (bm (dB ++ l)) (by decide) (by omega) _ ((lO W (.slice (some ⟨w.heap.size,0,none⟩) 8 8) (.slice x l.length c) 8 l.length (bm dB) (bm l) 22 hB hx).congr (fun j _=>(CA dB l j).symm))
 obtain ⟨S,hS⟩:∃ S,S=bg l:=⟨_,rfl⟩
 rw [←hS] at hpl ⊢;clear hS hW1;go_enter Tryz.func41,Tryz.ntmps41
 go_wp2_with (first
  | rw [hc]
  | (go_at_call 86;refine hpl.mono ?_;clear hpl;rintro e w2 ⟨s2,rfl,hB2,hb2⟩;(obtain ⟨x2,c2,hs2,-,-,-⟩:=hB2.src);subst hs2;have b2:=aa hb1 hb2;have b3:=b2.alloc b2.size (.cells #[.slice (some ⟨w.heap.size,0,none⟩) 8 8,.slice x2 l.length c2] 22))
  | (go_at_call 65;refine (hjo w2 x2 c2 (hB1.keep hb2) hB2).mono ?_;clear hjo;rintro e w4 ⟨s4,rfl,own4,hb4⟩))
 go_ret;exact ⟨s4,rfl,own4.lower b3.size,aa b3 hb4⟩
def Cv (a b:Nat):Nat→Nat:=fun i=>if i=0 then a else b
def Hc (A B:Nat→Nat):Nat→Nat→Nat:=fun i=>if i=0 then A else B
def iE (a b:Nat):Nat:=nm (Cv a b) 2
def jv (a:Nat) (A:Nat→Nat) (b:Nat) (B:Nat→Nat):Nat→Nat:=Bf (Cv a b) (Hc A B) 2
theorem rJ (a b:Nat):iE a b≤a+b+8:=by
 have h:=sJ (Cv a b) 2;have e:bG (Cv a b) 2=0+a+b:=rfl;unfold iE;omega
theorem wA {a b:Nat} {A B:Nat→Nat} (hA:∀ j,A j<256) (hB:∀ j,B j<256) (j:Nat):jv a A b B j<256 :=
 yP (pb:=fun i=>DK (Cv a b i) (Hc A B i)) (fun i j=>il (fun j=>Dq _ _ j) (fun j=>by unfold Hc;split;exact hA j;exact hB j) j) 2 j
theorem o0 (w:World) (v u:Value) (a b:Nat) (A B:Nat→Nat) (ty:TypeId) (h1:ae w v a A) (h2:ae w u b B) (hA:∀ j,A j<256) (hB:∀ j,B j<256):dp (w.alloc (.cells #[v,u] ty)) (some ⟨w.heap.size,0,none⟩) 2 (fun i=>if i=0 then v else u) (Cv a b) (Hc A B):=by
 have b0:=(Below.refl _ w).alloc (JW _) (.cells #[v,u] ty);refine ⟨fun q _=>⟨w.heap.size,0,rfl,fun i hi => ?_⟩,fun i hi => ?_,fun i j=>by unfold Hc;split;exact hA j;exact hB j⟩
 · rcases (show i=0∨i=1 by omega) with rfl | rfl
   · simp
   · simp
 · rcases (show i=0∨i=1 by omega) with rfl | rfl
   · exact h1.keep b0
   · exact h2.keep b0
theorem rC (w:World) (v u:Value) (a b:Nat) (A B:Nat→Nat) (h1:ae w v a A) (h2:ae w u b B) (hA:∀ j,A j<256) (hB:∀ j,B j<256) (ha:a≤65536) (hb:b≤65536) :
 Calls Tryz.prog 85 #[.slice (some ⟨w.heap.size,0,none⟩) 2 2] (w.alloc (.cells #[v,u] 22)) fun e w'=>∃ s,e = .returned (.tuple #[s,.int .i64 0])∧bx (w.heap.size+1) w' s (iE a b) (jv a A b B)∧Below (w.heap.size+1) (w.alloc (.cells #[v,u] 22)) w':=by
 have hbig:kz (Cv a b) 2=false:=by simp [kz,Cv];omega
 have h:=vO (some ⟨w.heap.size,0,none⟩) 2 2 _ (Cv a b) (Hc A B) hbig (by decide) (by show 0+a+b≤_;omega) _ (o0 w v u a b A B 22 h1 h2 hA hB);rw [World.size_alloc] at h;unfold iE jv;exact h
theorem fI (l:List Nat):(bg l).size=l.length:=by simp [bg,ByteArray.size]
theorem oG {l:List Nat} (h:∀ x,x∈l→x<256):∀ x,x∈dB ++ l→x<256:=by
 intro x hx
 rcases List.mem_append.1 hx with h1 | h1
 · exact Es x h1
 · exact h x h1
theorem nd (l:List Nat) (h:∀ x,x∈l→x<256) (hl:l.length≤65528) (v:Value) (n:Nat) (bs:Nat→Nat) (hbs:∀ j,bs j<256) (hn:n≤65528) (w:World) (hv:ae w v n bs) :
 Calls Tryz.prog 40 #[.string (bg l),.func (.func 41) #[.string (bg l)] #[],v] w fun e w'=>∃ s,e = .returned (.tuple #[s,.int .i64 0])∧bx w.heap.size w' s (iE (8+l.length) n) (jv (8+l.length) (bm (dB ++ l)) n bs)∧Below w.heap.size w w':=by
 obtain ⟨xv,cv,rfl,-,-,-⟩:=hv.src;have hpl:=pD l h (by omega) w
 have hve:=fun (W:World) (x:Option Addr) (c:Nat) (hb:Below w.heap.size w W) (hx:ae W (.slice x (8+l.length) c) (8+l.length) (bm (dB ++ l))) =>
  rC W (.slice x (8+l.length) c) (.slice xv n cv) (8+l.length) n (bm (dB ++ l)) bs hx (hv.keep hb) (jq (oG h)) hbs (by omega) (by omega)
 have hsz:=fI l
 obtain ⟨S,hS⟩:∃ S,S=bg l:=⟨_,rfl⟩
 rw [←hS] at hpl hsz ⊢
 obtain ⟨T,hT⟩:∃ T,T=iE (8+l.length) n:=⟨_,rfl⟩
 obtain ⟨F,hF⟩:∃ F,F=jv (8+l.length) (bm (dB ++ l)) n bs:=⟨_,rfl⟩
 rw [←hT,←hF] at hve ⊢
 obtain ⟨K,hK⟩:∃ K,K=(8+l.length):=⟨_,rfl⟩
 rw [←hK] at hpl hve
 have h1:¬(65528:Int)<(S.size:Int):=by rw [hsz];omega
 have h2:¬(65528:Int)<(n:Int):=by omega
 clear hS hT hF hK hsz;go_enter Tryz.func40,Tryz.ntmps40
 go_wp2_with (first
  | (go_at_call 41;refine hpl.mono ?_;clear hpl;rintro e w2 ⟨s2,rfl,hB2,hb2⟩;have hB2:=hB2.bytesIn;(obtain ⟨x2,c2,hs2,-,-,-⟩:=hB2.src);subst hs2;have b3:=hb2.alloc hb2.size (.cells #[.slice x2 K c2,.slice xv n cv] 22))
  | (go_at_call 85;refine (hve w2 x2 c2 hb2 hB2).mono ?_;clear hve;rintro e w4 ⟨s4,rfl,own4,hb4⟩))
 go_ret2;exact ⟨s4,rfl,own4.lower (Nat.le_succ_of_le hb2.size),aa b3 (by rw [World.size_alloc];exact hb4)⟩
theorem iU (l:List Nat) (v:Value) (n:Nat) (bs:Nat→Nat) (hn:65528<l.length∨65528<n) (w:World) (hv:ae w v n bs) :
 Calls Tryz.prog 40 #[.string (bg l),.func (.func 41) #[.string (bg l)] #[],v] w fun e w'=>e = .returned (.tuple #[.slice none 0 0,.int .i64 6])∧w'=w:=by
 obtain ⟨xv,cv,rfl,-,-,-⟩:=hv.src;have hsz:=fI l
 obtain ⟨S,hS⟩:∃ S,S=bg l:=⟨_,rfl⟩
 rw [←hS] at hsz ⊢
 by_cases hc:65528<l.length
 · have h1:(65528:Int)<(S.size:Int):=by rw [hsz];omega
   clear hS hsz hv hn;go_enter Tryz.func40,Tryz.ntmps40;go_wp2;go_ret2;exact ⟨rfl,rfl⟩
 · have h1:¬(65528:Int)<(S.size:Int):=by rw [hsz];omega
   have h2:(65528:Int)<(n:Int):=by omega
   clear hS hsz hv hn;go_enter Tryz.func40,Tryz.ntmps40;go_wp2;go_ret2;exact ⟨rfl,rfl⟩
theorem gB (l:List Nat) (h:∀ x,x∈l→x<256) (hl:l.length≤65528) (v:Value) (n:Nat) (bs:Nat→Nat) (hbs:∀ j,bs j<256) (hn:n≤65528) (w:World) (hv:ae w v n bs) :
 Calls Tryz.prog 21 #[.string (bg l),v] w fun e w'=>∃ s,e = .returned (.tuple #[s,.int .i64 0])∧bx w.heap.size w' s (iE (8+l.length) n) (jv (8+l.length) (bm (dB ++ l)) n bs)∧Below w.heap.size w w':=by
 have ha:=nd l h hl v n bs hbs hn w hv
 obtain ⟨S,hS⟩:∃ S,S=bg l:=⟨_,rfl⟩
 obtain ⟨T,hT⟩:∃ T,T=iE (8+l.length) n:=⟨_,rfl⟩
 obtain ⟨F,hF⟩:∃ F,F=jv (8+l.length) (bm (dB ++ l)) n bs:=⟨_,rfl⟩
 rw [←hS,←hT,←hF] at ha ⊢;clear hS hT hF hv;go_enter Tryz.func21,Tryz.ntmps21;go_wp2_with (go_at_call 40;refine ha.mono ?_;clear ha;rintro e w2 ⟨s2,rfl,own2,hb2⟩);go_ret2;exact ⟨s2,rfl,own2,hb2⟩
theorem ju (l:List Nat) (v:Value) (n:Nat) (bs:Nat→Nat) (hn:65528<l.length∨65528<n) (w:World) (hv:ae w v n bs) :
 Calls Tryz.prog 21 #[.string (bg l),v] w fun e w'=>e = .returned (.tuple #[.slice none 0 0,.int .i64 6])∧w'=w:=by
 have ha:=iU l v n bs hn w hv
 obtain ⟨S,hS⟩:∃ S,S=bg l:=⟨_,rfl⟩
 rw [←hS] at ha ⊢;clear hS hv hn;go_enter Tryz.func21,Tryz.ntmps21;go_wp2_with (go_at_call 40;refine ha.mono ?_;clear ha;rintro e w2 ⟨rfl,rfl⟩);go_ret2;exact ⟨rfl,rfl⟩
theorem vL (l:List Nat) (h:∀ x,x∈l→x<256) (hl:l.length≤65528) (v:Value) (n:Nat) (bs:Nat→Nat) (hbs:∀ j,bs j<256) (hn:n≤65528) (w:World) (hv:ae w v n bs) :
 Calls Tryz.prog 40 #[.string (bg l),.func (.func 86) #[.string (bg l)] #[],v] w fun e w'=>∃ s,e = .returned (.tuple #[s,.int .i64 0])∧bx w.heap.size w' s (iE l.length n) (jv l.length (bm l) n bs)∧Below w.heap.size w w':=by
 obtain ⟨xv,cv,rfl,-,-,-⟩:=hv.src;have hpl:=qD l h  w
 have hve:=fun (W:World) (x:Option Addr) (c:Nat) (hb:Below w.heap.size w W) (hx:ae W (.slice x l.length c) l.length (bm l)) =>
  rC W (.slice x l.length c) (.slice xv n cv) l.length n (bm l) bs hx (hv.keep hb) (jq h) hbs (by omega) (by omega)
 have hsz:=fI l
 obtain ⟨S,hS⟩:∃ S,S=bg l:=⟨_,rfl⟩
 rw [←hS] at hpl hsz ⊢
 obtain ⟨T,hT⟩:∃ T,T=iE l.length n:=⟨_,rfl⟩
 obtain ⟨F,hF⟩:∃ F,F=jv l.length (bm l) n bs:=⟨_,rfl⟩
 rw [←hT,←hF] at hve ⊢
 obtain ⟨K,hK⟩:∃ K,K=l.length:=⟨_,rfl⟩
 rw [←hK] at hpl hve
 have h1:¬(65528:Int)<(S.size:Int):=by rw [hsz];omega
 have h2:¬(65528:Int)<(n:Int):=by omega
 clear hS hT hF hK hsz;go_enter Tryz.func40,Tryz.ntmps40
 go_wp2_with (first
  | (go_at_call 86;refine hpl.mono ?_;clear hpl;rintro e w2 ⟨s2,rfl,hB2,hb2⟩;(obtain ⟨x2,c2,hs2,-,-,-⟩:=hB2.src);subst hs2;have b3:=hb2.alloc hb2.size (.cells #[.slice x2 K c2,.slice xv n cv] 22))
  | (go_at_call 85;refine (hve w2 x2 c2 hb2 hB2).mono ?_;clear hve;rintro e w4 ⟨s4,rfl,own4,hb4⟩))
 go_ret2;exact ⟨s4,rfl,own4.lower (Nat.le_succ_of_le hb2.size),aa b3 (by rw [World.size_alloc];exact hb4)⟩
theorem wm (l:List Nat) (h:∀ x,x∈l→x<256) (hl:l.length≤65528) (v:Value) (n:Nat) (bs:Nat→Nat) (hbs:∀ j,bs j<256) (hn:n≤65528) (w:World) (hv:ae w v n bs) :
 Calls Tryz.prog 66 #[.string (bg l),v] w fun e w'=>∃ s,e = .returned (.tuple #[s,.int .i64 0])∧bx w.heap.size w' s (iE l.length n) (jv l.length (bm l) n bs)∧Below w.heap.size w w':=by
 have ha:=vL l h hl v n bs hbs hn w hv
 obtain ⟨S,hS⟩:∃ S,S=bg l:=⟨_,rfl⟩
 obtain ⟨T,hT⟩:∃ T,T=iE l.length n:=⟨_,rfl⟩
 obtain ⟨F,hF⟩:∃ F,F=jv l.length (bm l) n bs:=⟨_,rfl⟩
 rw [←hS,←hT,←hF] at ha ⊢;clear hS hT hF hv;go_enter Tryz.func66,Tryz.ntmps66;go_wp2_with (go_at_call 40;refine ha.mono ?_;clear ha;rintro e w2 ⟨s2,rfl,own2,hb2⟩);go_ret2;exact ⟨s2,rfl,own2,hb2⟩
def Fi (l:List Nat) (n:Nat) (bs:Nat→Nat) (N:Nat):Nat→Nat:=bu 2 (vz N 2) (jv (8+l.length) (bm (dB ++ l)) n bs)
def DI (l:List Nat) (n:Nat):Nat:=2+iE (8+l.length) n
def vN (sn:Nat) (ks:Nat→Nat) (l:List Nat) (n:Nat) (bs:Nat→Nat) (N:Nat):Nat→Nat:=jr (dL sn ks) (DI l n) (Fi l n bs N) N
theorem IP {w:World} {g n:Nat} {X:Nat→Nat} (h:ah .u8 w g 0 n X):ae w (.slice (some ⟨g,0,none⟩) n n) n X:=by
 by_cases e:n=0
 · subst e
   exact .inl ⟨_,rfl,rfl⟩
 · exact .inr ⟨g,0,n,rfl,J5 (h 0 (by omega)).1,JW _,fun j hj=>(h j hj).1⟩
theorem Is (l:List Nat) (h:∀ x,x∈l→x<256) (n:Nat) (bs:Nat→Nat) (hbs:∀ j,bs j<256) (N:Nat) (j:Nat):Fi l n bs N j<256 :=
 il (fun j=>Dq _ _ j) (wA (jq (oG h)) hbs) j
theorem GK (l:List Nat) (n:Nat) (hl:l.length≤65528) (hn:n≤65528):DI l n≤200000:=by
 have:=rJ (8+l.length) n;unfold DI;omega
theorem ik (l:List Nat) (h:∀ x,x∈l→x<256) (hl:l.length≤65528) (sv cv:Value) (sn n:Nat) (ks bs:Nat→Nat) (hks:∀ j,ks j<256) (hbs:∀ j,bs j<256) (hsn:sn<140737488355000) (hn:n≤65528) (N:Nat) (hN:N≤8160) (w:World) (hT:ep w aS aC) (h1:ae w sv sn ks) (h2:ae w cv n bs) :
 Calls Tryz.prog 28 #[sv,.string (bg l),cv,.int .i64 N] w fun e w'=>∃ s,e = .returned (.tuple #[s,.int .i64 0])∧ae w' s N (vN sn ks l n bs N)∧Below w.heap.size w w':=by
 have hla:=gB l h hl cv n bs hbs hn w h2
 have hnu:=fun W=>uW N 2 (by decide) (by show N<65536;omega) W
 have hle:=GK l n hl hn
 have hjo:=fun (W:World) (x y:Option Addr) (c d:Nat) (hx:ae W (.slice x 2 c) 2 (vz N 2)) (hy:ae W (.slice y (iE (8+l.length) n) d) (iE (8+l.length) n) (jv (8+l.length) (bm (dB ++ l)) n bs)) =>
  oI W.heap.size 2 (DI l n) (Fi l n bs N) (by decide) (by omega) _ (lO W (.slice x 2 c) (.slice y (iE (8+l.length) n) d) 2 (iE (8+l.length) n) (vz N 2) (jv (8+l.length) (bm (dB ++ l)) n bs) 22 hx hy)
 obtain ⟨xs,cs,rfl,-,-,-⟩:=h1.src
 have hex:=fun (W:World) (y:Option Addr) (d:Nat) (hb:Below w.heap.size w W) (hy:ae W (.slice y (DI l n) d) (DI l n) (Fi l n bs N)) =>
  xN xs y sn (DI l n) cs d ks (Fi l n bs N) hks (Is l h n bs hbs N) (by omega) (by omega) W (hT.below hb hT.size) (h1.keep hb) hy N hN
 obtain ⟨S,hS⟩:∃ S,S=bg l:=⟨_,rfl⟩
 obtain ⟨T,hT1⟩:∃ T,T=iE (8+l.length) n:=⟨_,rfl⟩
 obtain ⟨F,hF⟩:∃ F,F=jv (8+l.length) (bm (dB ++ l)) n bs:=⟨_,rfl⟩
 obtain ⟨L,hL⟩:∃ L,L=DI l n:=⟨_,rfl⟩
 obtain ⟨G,hG⟩:∃ G,G=Fi l n bs N:=⟨_,rfl⟩
 obtain ⟨E,hE⟩:∃ E,E=jr (dL sn ks) L G N:=⟨_,rfl⟩
 have hE2:vN sn ks l n bs N=E:=by rw [hE,hL,hG];rfl
 rw [hE2];rw [←hS] at hla ⊢;rw [←hT1,←hF] at hla hjo;rw [←hL,←hG] at hjo hex;rw [←hE] at hex;clear hS hT1 hF hL hG hE hE2 hle h1 h2;go_enter Tryz.func28,Tryz.ntmps28
 go_wp2_with (first
  | (go_at_call 21;refine hla.mono ?_;clear hla;rintro e w1 ⟨s1,rfl,own1,b1⟩;have B1:=own1.bytesIn;(obtain ⟨x1,c1,hs1,-,-,-⟩:=B1.src);subst hs1)
  | (go_at_call 63;refine (hnu _).mono ?_;clear hnu;rintro e w2 ⟨s2,rfl,B2,hb2⟩;(obtain ⟨x2,c2,hs2,-,-,-⟩:=B2.src);subst hs2;have b2:=aa b1 hb2;replace B1:=B1.keep hb2;have b3:=b2.alloc b2.size (.cells #[.slice x2 2 c2,.slice x1 T c1] 22))
  | (go_at_call 65;refine (hjo w2 x2 x1 c2 c1 B2 B1).mono ?_;clear hjo;rintro e w4 ⟨s4,rfl,own4,hb4⟩;have B4:=own4.bytesIn;(obtain ⟨x4,c4,hs4,-,-,-⟩:=B4.src);subst hs4;have b4:=aa b3 hb4)
  | (go_at_call 64;refine (hex w4 x4 c4 b4 B4).mono ?_;clear hex;rintro e w5 ⟨g5,rfl,hg5,r5,hb5⟩))
 go_ret2;exact ⟨_,rfl,IP r5,aa b4 hb5⟩
theorem jj (w:World) (b:Nat→Nat):ae w (.slice none 0 0) 0 b := .inl ⟨none,rfl,rfl⟩
theorem jF (l:List Nat) (h:∀ x,x∈l→x<256) (hl:l.length≤65528) (sv:Value) (sn:Nat) (ks:Nat→Nat) (hks:∀ j,ks j<256) (hsn:sn<140737488355000) (w:World) (hT:ep w aS aC) (h1:ae w sv sn ks) :
 Calls Tryz.prog 29 #[sv,.string (bg l)] w fun e w'=>∃ s,e = .returned s∧ae w' s 32 (vN sn ks l 0 lZ 32)∧Below w.heap.size w w':=by
 have hex:=ik l h hl sv (.slice none 0 0) sn 0 ks lZ hks (fun _=>by show 0<256;decide) hsn (by decide) 32 (by decide) w hT h1 (jj w lZ)
 obtain ⟨S,hS⟩:∃ S,S=bg l:=⟨_,rfl⟩
 obtain ⟨E,hE⟩:∃ E,E=vN sn ks l 0 lZ 32:=⟨_,rfl⟩
 rw [←hS,←hE] at hex ⊢;replace hex:Calls Tryz.prog 28 #[sv,.string S,.slice none 0 0,.int .i64 32] w _:=hex;clear hS hE hT h1;go_enter Tryz.func29,Tryz.ntmps29;go_wp2_with (go_at_call 28;refine hex.mono ?_;clear hex;rintro e w1 ⟨s1,rfl,B1,b1⟩;(obtain ⟨x1,c1,hs1,-,-,-⟩:=B1.src);subst hs1);go_ret;exact ⟨_,rfl,B1,b1⟩
def Jw (l:List Nat) (n:Nat) (bs:Nat→Nat):Nat→Nat:=eD 32 (du rn aS aC (iE l.length n) (jv l.length (bm l) n bs))
theorem zJ (l:List Nat) (h:∀ x,x∈l→x<256) (hl:l.length≤65528) (cv:Value) (n:Nat) (bs:Nat→Nat) (hbs:∀ j,bs j<256) (hn:n≤65528) (w:World) (hT:ep w aS aC) (h2:ae w cv n bs) :
 Calls Tryz.prog 30 #[.string (bg l),cv] w fun e w'=>∃ s,e = .returned s∧ae w' s 32 (Jw l n bs)∧Below w.heap.size w w':=by
 have hla:=wm l h hl cv n bs hbs hn w h2;have hlt:=wA (a:=l.length) (b:=n) (jq h) hbs;have hle:=rJ l.length n
 have hsu:=fun (W:World) (y:Option Addr) (d:Nat) (hb:Below w.heap.size w W) (hy:ae W (.slice y (iE l.length n) d) (iE l.length n) (jv l.length (bm l) n bs)) =>
  oU aS aC (.slice y (iE l.length n) d) (iE l.length n) (jv l.length (bm l) n bs) hlt W (hT.below hb hT.size) hy (by omega)
 rw [j5 aS aC _ _ (by decide)] at hsu
 obtain ⟨S,hS⟩:∃ S,S=bg l:=⟨_,rfl⟩
 obtain ⟨E,hE⟩:∃ E,E=Jw l n bs:=⟨_,rfl⟩
 have hE2:eD 32 (du rn aS aC (iE l.length n) (jv l.length (bm l) n bs))=E:=hE.symm;rw [hE2] at hsu;rw [←hE]
 obtain ⟨T,hT1⟩:∃ T,T=iE l.length n:=⟨_,rfl⟩
 obtain ⟨F,hF⟩:∃ F,F=jv l.length (bm l) n bs:=⟨_,rfl⟩
 rw [←hT1,←hF] at hla hsu;rw [←hS] at hla ⊢;clear hS hE hE2 hT1 hF hle hlt h2;go_enter Tryz.func30,Tryz.ntmps30
 go_wp2_with (first
  | (go_at_call 66;refine hla.mono ?_;clear hla;rintro e w1 ⟨s1,rfl,own1,b1⟩;have B1:=own1.bytesIn;(obtain ⟨x1,c1,hs1,-,-,-⟩:=B1.src);subst hs1)
  | (go_at_call 67;refine (hsu w1 x1 c1 b1 B1).mono ?_;clear hsu;rintro e w2 ⟨g2,rfl,hg2,r2,hb2⟩))
 go_ret;exact ⟨_,rfl,IP r2,aa b1 hb2⟩
theorem Dp (l r:List Nat):bg l ++ bg r=bg (l ++ r):=by
 apply ByteArray.ext;simp [bg]
theorem pa (l:List Nat) (hl:l.length≤65528) (v:Value) (n:Nat) (bs:Nat→Nat) (hn:n≤65528) (w:World) (hv:ae w v n bs) :
 Calls Tryz.prog 23 #[.string (bg l),v] w fun e w'=>e = .returned (.bool true)∧w'=w:=by
 obtain ⟨xv,cv,rfl,-,-,-⟩:=hv.src;have hsz:=fI l
 obtain ⟨S,hS⟩:∃ S,S=bg l:=⟨_,rfl⟩
 rw [←hS] at hsz ⊢
 have h1:(S.size:Int)≤65528:=by rw [hsz];omega
 have h2:(n:Int)≤65528:=by omega
 clear hS hsz hv hl hn;go_enter Tryz.func23,Tryz.ntmps23;go_wp2;go_ret;exact ⟨rfl,rfl⟩
theorem oJ (l:List Nat) (v:Value) (n:Nat) (bs:Nat→Nat) (hn:65528<l.length∨65528<n) (w:World) (hv:ae w v n bs) :
 Calls Tryz.prog 23 #[.string (bg l),v] w fun e w'=>e = .returned (.bool false)∧w'=w:=by
 obtain ⟨xv,cv,rfl,-,-,-⟩:=hv.src;have hsz:=fI l
 obtain ⟨S,hS⟩:∃ S,S=bg l:=⟨_,rfl⟩
 rw [←hS] at hsz ⊢
 by_cases hc:65528<l.length
 · have h1:¬(S.size:Int)≤65528:=by rw [hsz];omega
   clear hS hsz hv hn hc;go_enter Tryz.func23,Tryz.ntmps23;go_wp2;go_ret;exact ⟨rfl,rfl⟩
 · have h1:(S.size:Int)≤65528:=by rw [hsz];omega
   have h2:¬(n:Int)≤65528:=by omega
   clear hS hsz hv hn hc;go_enter Tryz.func23,Tryz.ntmps23;go_wp2;go_ret;exact ⟨rfl,rfl⟩
theorem AW (w:World) (v u:Value) (a b:Nat) (A B:Nat→Nat) (h1:ae w v a A) (h2:ae w u b B) (hA:∀ j,A j<256) (hB:∀ j,B j<256) (ha:a≤65536) (hb:b≤65536) :
 Calls Tryz.prog 52 #[.slice (some ⟨w.heap.size,0,none⟩) 2 2] (w.alloc (.cells #[v,u] 22)) fun e w'=>∃ s,e = .returned s∧bx (w.heap.size+1) w' s (iE a b) (jv a A b B)∧Below (w.heap.size+1) (w.alloc (.cells #[v,u] 22)) w':=by
 have h:=A4 (some ⟨w.heap.size,0,none⟩) 2 2 _ (Cv a b) (Hc A B) (fun i _=>by unfold Cv;split;exact ha;exact hb) (by decide) (by show 0+a+b≤_;omega) _ (o0 w v u a b A B 22 h1 h2 hA hB);rw [World.size_alloc] at h;exact h
set_option maxRecDepth 20000 in
theorem jc (l:List Nat) (h:∀ x,x∈l→x<256) (hl:l.length≤65528) (v:Value) (n:Nat) (bs:Nat→Nat) (hbs:∀ j,bs j<256) (hn:n≤65528) (w:World) (hv:ae w v n bs) :
 Calls Tryz.prog 25 #[.string (bg l),v] w fun e w'=>∃ s,e = .returned s∧bx w.heap.size w' s (iE (8+l.length) n) (jv (8+l.length) (bm (dB ++ l)) n bs)∧Below w.heap.size w w':=by
 obtain ⟨xv,cv,rfl,-,-,-⟩:=hv.src;obtain ⟨c,W,hc,hB,hb⟩:=vT w (dB ++ l) (oG h);rw [←Dp,show (dB ++ l).length=8+l.length by rw [List.length_append];rfl] at hc;rw [show (dB ++ l).length=8+l.length by rw [List.length_append];rfl] at hB;replace hc:(convert 9 22 (.string ({ data:=#[77,76,83,32,49,46,48,32] } ++ bg l))).run Tryz.prog w = .ok (.slice (some ⟨w.heap.size,0,none⟩) (8+l.length) c) W:=hc;have hj:=AW W (.slice (some ⟨w.heap.size,0,none⟩) (8+l.length) c) (.slice xv n cv) (8+l.length) n (bm (dB ++ l)) bs hB (hv.keep hb) (jq (oG h)) hbs (by omega) (by omega);have b3:=hb.alloc hb.size (.cells #[.slice (some ⟨w.heap.size,0,none⟩) (8+l.length) c,.slice xv n cv] 22)
 obtain ⟨S,hS⟩:∃ S,S=bg l:=⟨_,rfl⟩
 have hsz:=fI l;rw [←hS] at hc hsz ⊢
 have h63:¬9223372036854775807<8+S.size:=by rw [hsz];omega
 obtain ⟨T,hT⟩:∃ T,T=iE (8+l.length) n:=⟨_,rfl⟩
 obtain ⟨F,hF⟩:∃ F,F=jv (8+l.length) (bm (dB ++ l)) n bs:=⟨_,rfl⟩
 rw [←hT,←hF] at hj ⊢
 obtain ⟨K,hK⟩:∃ K,K=(8+l.length):=⟨_,rfl⟩
 rw [←hK] at hj hc b3;clear hS hT hF hK hB hv hl hn hsz;go_enter Tryz.func25,Tryz.ntmps25
 go_wp2_with (first
  | rw [hc]
  | (go_at_call 52;refine hj.mono ?_;clear hj;rintro e w4 ⟨s4,rfl,own4,hb4⟩))
 go_ret;exact ⟨s4,rfl,own4.lower (Nat.le_succ_of_le hb.size),aa b3 (by rw [World.size_alloc];exact hb4)⟩
theorem oj {kv kv' t t':Nat→Nat} {p m:Nat} (hk:∀ j,kv j=kv' j) (ht:∀ j,j<m→t j=t' j):iy kv p m t=iy kv' p m t':=by
 unfold iy;rw [mV (cs:=bu 64 (fun j=>kv' j ^^^ p) t') fun j hj => ?_];unfold bu
 by_cases h:j<64
 · rw [if_pos h,if_pos h]
   show kv j ^^^ p=kv' j ^^^ p;rw [hk]
 · rw [if_neg h,if_neg h,ht _ (by omega)]
theorem nr {f g:Nat→Nat} {n:Nat} (h:((List.range n).all fun j=>f j == g j)=true) (j:Nat) (hj:j<n):f j=g j:=by
 have:=List.all_eq_true.1 h j (List.mem_range.2 hj)
 simpa using this
theorem ve {kv t t':Nat→Nat} {m:Nat} {I O:Nat→Nat} (ht:∀ j,j<m→t j=t' j) (h1:((List.range 32).all fun j=>iy kv 54 m t' j == I j)=true) (h2:((List.range 32).all fun j=>iy kv 92 32 I j == O j)=true) (j:Nat) (hj:j<32):wV kv m t j=O j:=by
 unfold wV;rw [oj (fun _=>rfl) (fun q hq=>(by rw [oj (fun _=>rfl) ht];exact nr h1 q hq:iy kv 54 m t q=I q))];exact nr h2 j hj
def JE:List Nat:=[0,32,9,77,76,83,32,49,46,48,32,97,0,1]
def JH:List Nat:=[83,28,118,42,43,114,164,209,31,83,186,156,246,16,4,98,218,65,176,112,230,132,253,1,143,13,64,26,166,200,183,13]
def JF:List Nat:=[6,187,106,38,73,168,223,37,164,173,197,69,45,92,203,94,228,95,234,158,185,138,98,181,165,136,209,18,127,78,151,11]
set_option maxRecDepth 20000 in
theorem JM:((List.range 14).all fun j=>bu 0 (fun _=>0) (bu (DI [97] 0) (Fi [97] 0 lZ 32) (fun _=>1)) j == bm JE j)=true:=by kernel_rfl
set_option maxRecDepth 20000 in
theorem JN:((List.range 32).all fun j=>iy (dL 32 lZ) 54 14 (bm JE) j == bm JH j)=true:=by kernel_rfl
set_option maxRecDepth 20000 in
theorem JV:((List.range 32).all fun j=>iy (dL 32 lZ) 92 32 (bm JH) j == bm JF j)=true:=by kernel_rfl
theorem Js (j:Nat) (hj:j<32):vN 32 lZ [97] 0 lZ 32 j=bm JF j:=by
 unfold vN jr;rw [if_pos hj,Nat.div_eq_of_lt hj,Nat.mod_eq_of_lt hj];exact ve (m:=14) (fun q hq=>nr JM q hq) JN JV j hj
def JK:List Nat:=[0,32,9,77,76,83,32,49,46,48,32,98,0,1]
def JG:List Nat:=[202,230,118,1,49,252,102,183,171,136,173,111,115,62,78,185,168,171,2,132,175,210,76,24,38,211,164,12,159,30,62,29]
def JI:List Nat:=[70,120,94,183,192,29,83,92,80,17,87,175,173,44,16,114,100,235,247,230,213,156,135,10,82,46,250,2,88,49,182,227]
set_option maxRecDepth 20000 in
theorem JQ:((List.range 14).all fun j=>bu 0 (fun _=>0) (bu (DI [98] 0) (Fi [98] 0 lZ 32) (fun _=>1)) j == bm JK j)=true:=by kernel_rfl
set_option maxRecDepth 20000 in
theorem JP:((List.range 32).all fun j=>iy (dL 32 lZ) 54 14 (bm JK) j == bm JG j)=true:=by kernel_rfl
set_option maxRecDepth 20000 in
theorem JT:((List.range 32).all fun j=>iy (dL 32 lZ) 92 32 (bm JG) j == bm JI j)=true:=by kernel_rfl
theorem Jr (j:Nat) (hj:j<32):vN 32 lZ [98] 0 lZ 32 j=bm JI j:=by
 unfold vN jr;rw [if_pos hj,Nat.div_eq_of_lt hj,Nat.mod_eq_of_lt hj];exact ve (m:=14) (fun q hq=>nr JQ q hq) JP JT j hj
theorem I5:vN 32 lZ [98] 0 lZ 32 0≠vN 32 lZ [97] 0 lZ 32 0:=by
 rw [Js 0 (by decide),Jr 0 (by decide)];decide
theorem D3 {n:Nat} {A B:Nat→Nat} (hA:∀ j,A j<256) (hB:∀ j,B j<256) (hn:0<n) (h:A 0≠B 0):¬bF n A=bF n B:=fun e=>h (by
 have e1:=congrArg (fun s=>s.data[0]?) e;simp [bF,hn] at e1;have e2:=congrArg UInt8.toNat e1;simp [Nat.mod_eq_of_lt (hA 0),Nat.mod_eq_of_lt (hB 0)] at e2
 exact e2)
theorem ep.still5 {w w':World} {K q:Nat→Nat} (h:ep w K q) (hb:Below w.heap.size w w'):ep w' K q:=h.below hb h.size
structure iq (w:World):Prop where
 h:ep w aS aC
theorem iq.still {w w':World} (h:iq w) (hb:Below w.heap.size w w'):iq w':=⟨h.h.still5 hb⟩
structure nY (W:World) (g cap n:Nat) (bs:Nat→Nat):Prop where
 cap:n+2≤cap
 row:ah .u8 W g 0 (n+2) (bu n bs sC)
theorem nY.still {W W':World} {g cap n:Nat} {bs:Nat→Nat} (h:nY W g cap n bs) (hb:Below W.heap.size W W'):nY W' g cap n bs:=⟨h.cap,h.row.below hb (J5 (h.row 0 (by omega)).1)⟩
theorem nY.bytes {W:World} {g cap n:Nat} {bs:Nat→Nat} (h:nY W g cap n bs):ae W (.slice (some ⟨g,0,none⟩) n cap) n bs :=
 .inr ⟨g,0,cap,rfl,J5 (h.row 0 (by omega)).1,Nat.le_trans (Nat.le_add_right _ _) h.cap,fun j hj=>by
  have e:=(h.row j (by omega)).1;rw [d7 hj] at e
  exact e⟩
structure Cs (W:World) (v:Value) (S:ByteArray):Prop where
 conv:∀ w,Below W.heap.size W w→(convert 22 9 v).run Tryz.prog w = .ok (.string S) w
theorem Cs.still {W W':World} {v:Value} {S:ByteArray} (h:Cs W v S) (hb:Below W.heap.size W W'):Cs W' v S:=⟨fun w hw=>h.conv w (aa hb hw)⟩
theorem ae.cs {W:World} {v:Value} {n:Nat} {X:Nat→Nat} (h:ae W v n X) (hX:∀ j,X j<256):Cs W v (bF n X):=⟨fun w hw=>h.conv hX w hw⟩
theorem Cq (kv:Nat→Nat) (m:Nat) (info:Nat→Nat) (a j:Nat):jr kv m info a j<256:=by
 unfold jr
 split
 · exact Fl _ _ _ _ _
 · decide
theorem lN (sn:Nat) (ks:Nat→Nat) (l:List Nat) (n:Nat) (bs:Nat→Nat) (N j:Nat):vN sn ks l n bs N j<256:=Cq _ _ _ _ _
theorem iV (j:Nat):lZ j<256:=(by decide:0<256)
abbrev tZ (f:FuncId) (args:Array Value) (W:World) (S:ByteArray) (E:Int):Prop:=Calls Tryz.prog f args W fun e w'=>∃ x n c,e = .returned (.tuple #[.slice x n c,.int .i64 E])∧Cs w' (.slice x n c) S∧Below W.heap.size W w'
abbrev Gw (f:FuncId) (args:Array Value) (W:World) (S:ByteArray):Prop:=Calls Tryz.prog f args W fun e w'=>∃ x n c,e = .returned (.slice x n c)∧Cs w' (.slice x n c) S∧Below W.heap.size W w'
theorem Gr {f:FuncId} {args:Array Value} {W:World} {n:Nat} {X:Nat→Nat} {E:Int} (hX:∀ j,X j<256) (h:Calls Tryz.prog f args W fun e w'=>∃ s,e = .returned (.tuple #[s,.int .i64 E])∧ae w' s n X∧Below W.heap.size W w'):tZ f args W (bF n X) E :=
 h.mono fun _ _ ⟨s,h1,h2,h3⟩=>by
  obtain ⟨x,c,rfl,-⟩:=h2.src;exact ⟨x,n,c,h1,h2.cs hX,h3⟩
theorem IV {f:FuncId} {args:Array Value} {W:World} {n:Nat} {X:Nat→Nat} (hX:∀ j,X j<256) (h:Calls Tryz.prog f args W fun e w'=>∃ s,e = .returned s∧ae w' s n X∧Below W.heap.size W w'):Gw f args W (bF n X) :=
 h.mono fun _ _ ⟨s,h1,h2,h3⟩=>by
  obtain ⟨x,c,rfl,-⟩:=h2.src;exact ⟨x,n,c,h1,h2.cs hX,h3⟩
theorem yU {f:FuncId} {args:Array Value} {W:World} {E:Int} (h:Calls Tryz.prog f args W fun e w'=>e = .returned (.tuple #[.slice none 0 0,.int .i64 E])∧Below W.heap.size W w'):tZ f args W (bF 0 lZ) E :=
 h.mono fun _ _ ⟨h1,h3⟩=>⟨_,_,_,h1,(jj _ lZ).cs iV,h3⟩
theorem qE (n:Int) (w:World):Calls Tryz.prog 9 #[.int .i64 n] w fun e w'=>e = .returned (.int .i64 n)∧w'=w:=by
 go_enter Tryz.func9,Tryz.ntmps9;go_wp2;go_ret;exact ⟨rfl,rfl⟩
def c4 (n:Nat):List Value:=[.int .u64 (lw n 0),.int .u64 (lw n 1),.int .u64 (lw n 2),.int .u64 (lw n 3)]
def c8 (x z:Nat):List Value:=c4 x ++ c4 z
theorem sf:c4 0=[.int .u64 0,.int .u64 0,.int .u64 0,.int .u64 0]:=by kernel_rfl
theorem cL (w:World):∃ w' g,w.alloc (.cells #[.int .u64 0,.int .u64 0,.int .u64 0,.int .u64 0] 75)=w'∧w.heap.size=g∧Below w.heap.size w w'∧RW w' g 0 (c4 0):=by
 refine ⟨_,_,rfl,rfl,(Below.refl _ _).alloc (JW _) _,?_⟩;rw [sf];exact RW.fresh w _ _
theorem aE:(Tryz.prog.info? 75).map (·.size)=some 4:=by kernel_rfl
theorem fS (n:Nat):(c4 n).toArray.all (·.oneCell')=true:=by simp [c4,Value.oneCell']
end Go.Proofs.YtibdhadbflfdpaaGreatDoor
