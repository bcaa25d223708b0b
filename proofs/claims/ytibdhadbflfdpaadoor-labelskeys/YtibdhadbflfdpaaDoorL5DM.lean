/- What the proof stands on: L5D, L5N, L5E, L5K, Q10Laid, L5L. -/
import Derived.Test.YtibdhadbflfdpaaDoorBaseM
import Derived.Test.YtibdhadbflfdpaaDoorCards
import Derived.Test.YtibdhadbflfdpaaDoorGrwM
import Derived.Test.YtibdhadbflfdpaaDoorHPlainM
import Derived.Test.YtibdhadbflfdpaaDoorHStartM
import Derived.Test.YtibdhadbflfdpaaDoorTie
import Derived.ChangeMaps5
import Derived.Lib.LaidTab
namespace Go.Proofs.YtibdhadbflfdpaaDoor
open Go.RowKit
theorem strL_app (l r:List Nat):strL l ++ strL r=strL (l ++ r):=by
 apply ByteArray.ext
 simp [strL]
theorem rfits_good (l:List Nat) (hl:l.length≤65528) (v:Value) (n:Nat) (bs:Nat→Nat) (hn:n≤65528) (w:World) (hv:BytesIn w v n bs) :
 Calls Tryd.prog 20 #[.string (strL l),v] w fun e w'=>e = .returned (.bool true)∧w'=w:=by
 obtain ⟨xv,cv,rfl,-,-,-⟩:=hv.src
 have hsz:=strL_size l
 obtain ⟨S,hS⟩:∃ S,S=strL l:=⟨_,rfl⟩
 rw [←hS] at hsz ⊢
 have h1:(S.size:Int)≤65528:=by rw [hsz];omega
 have h2:(n:Int)≤65528:=by omega
 clear hS hsz hv hl hn
 go_enter Tryd.func20,Tryd.ntmps20
 go_wp2
 go_ret
 exact ⟨rfl,rfl⟩
theorem rfits_long (l:List Nat) (v:Value) (n:Nat) (bs:Nat→Nat) (hn:65528<l.length∨65528<n) (w:World) (hv:BytesIn w v n bs) :
 Calls Tryd.prog 20 #[.string (strL l),v] w fun e w'=>e = .returned (.bool false)∧w'=w:=by
 obtain ⟨xv,cv,rfl,-,-,-⟩:=hv.src
 have hsz:=strL_size l
 obtain ⟨S,hS⟩:∃ S,S=strL l:=⟨_,rfl⟩
 rw [←hS] at hsz ⊢
 by_cases hc:65528<l.length
 · have h1:¬(S.size:Int)≤65528:=by rw [hsz];omega
   clear hS hsz hv hn hc
   go_enter Tryd.func20,Tryd.ntmps20
   go_wp2
   go_ret
   exact ⟨rfl,rfl⟩
 · have h1:(S.size:Int)≤65528:=by rw [hsz];omega
   have h2:¬(n:Int)≤65528:=by omega
   clear hS hsz hv hn hc
   go_enter Tryd.func20,Tryd.ntmps20
   go_wp2
   go_ret
   exact ⟨rfl,rfl⟩
theorem rJoin_two (w:World) (v u:Value) (a b:Nat) (A B:Nat→Nat) (h1:BytesIn w v a A) (h2:BytesIn w u b B) (hA:∀ j,A j<256) (hB:∀ j,B j<256) (ha:a≤65536) (hb:b≤65536) :
 Calls Tryd.prog 25 #[.slice (some ⟨w.heap.size,0,none⟩) 2 2] (w.alloc (.cells #[v,u] 22)) fun e w'=>∃ s,e = .returned s∧Own (w.heap.size+1) w' s (v2L a b) (v2B a A b B)∧Below (w.heap.size+1) (w.alloc (.cells #[v,u] 22)) w':=by
 have h:=rJoin_any (some ⟨w.heap.size,0,none⟩) 2 2 _ (pn2 a b) (pb2 A B) (fun i _=>by unfold pn2;split;exact ha;exact hb) (by decide) (by show 0+a+b≤_;omega) _ (pieces_two w v u a b A B 22 h1 h2 hA hB)
 rw [World.size_alloc] at h
 exact h
set_option maxRecDepth 20000 in
theorem rLabelled_good (l:List Nat) (h:∀ x,x∈l→x<256) (hl:l.length≤65528) (v:Value) (n:Nat) (bs:Nat→Nat) (hbs:∀ j,bs j<256) (hn:n≤65528) (w:World) (hv:BytesIn w v n bs) :
 Calls Tryd.prog 15 #[.string (strL l),v] w fun e w'=>∃ s,e = .returned s∧Own w.heap.size w' s (v2L (8+l.length) n) (v2B (8+l.length) (litB (lMls ++ l)) n bs)∧Below w.heap.size w w':=by
 obtain ⟨xv,cv,rfl,-,-,-⟩:=hv.src
 obtain ⟨c,W,hc,hB,hb⟩:=conv_label w (lMls ++ l) (mls_lt h)
 rw [←strL_app,show (lMls ++ l).length=8+l.length by rw [List.length_append];rfl] at hc
 rw [show (lMls ++ l).length=8+l.length by rw [List.length_append];rfl] at hB
 replace hc:(convert 9 22 (.string ({ data:=#[77,76,83,32,49,46,48,32] } ++ strL l))).run Tryd.prog w = .ok (.slice (some ⟨w.heap.size,0,none⟩) (8+l.length) c) W:=hc
 have hj:=rJoin_two W (.slice (some ⟨w.heap.size,0,none⟩) (8+l.length) c) (.slice xv n cv) (8+l.length) n (litB (lMls ++ l)) bs hB (hv.keep hb) (litB_lt (mls_lt h)) hbs (by omega) (by omega)
 have b3:=hb.alloc hb.size (.cells #[.slice (some ⟨w.heap.size,0,none⟩) (8+l.length) c,.slice xv n cv] 22)
 obtain ⟨S,hS⟩:∃ S,S=strL l:=⟨_,rfl⟩
 have hsz:=strL_size l
 rw [←hS] at hc hsz ⊢
 have h63:¬9223372036854775807<8+S.size:=by rw [hsz];omega
 obtain ⟨T,hT⟩:∃ T,T=v2L (8+l.length) n:=⟨_,rfl⟩
 obtain ⟨F,hF⟩:∃ F,F=v2B (8+l.length) (litB (lMls ++ l)) n bs:=⟨_,rfl⟩
 rw [←hT,←hF] at hj ⊢
 obtain ⟨K,hK⟩:∃ K,K=(8+l.length):=⟨_,rfl⟩
 rw [←hK] at hj hc b3
 clear hS hT hF hK hB hv hl hn hsz
 go_enter Tryd.func15,Tryd.ntmps15
 go_wp2_with (first
  | rw [hc]
  | (go_at_call 25;refine hj.mono ?_;clear hj;rintro e w4 ⟨s4,rfl,own4,hb4⟩))
 go_ret
 exact ⟨s4,rfl,own4.lower (Nat.le_succ_of_le hb.size),below_next b3 (by rw [World.size_alloc];exact hb4)⟩
theorem own_two (base:Nat) (w:World) (x y:Nat) (h:base≤w.heap.size):Own base (w.alloc (.cells #[.int .u8 x,.int .u8 y] 5)) (.slice (some ⟨w.heap.size,0,none⟩) 2 2) 2 (litB [x,y]) :=
 World.ownsRow_lit w #[.int .u8 x,.int .u8 y] 2 h (by decide) rfl
theorem rExpand_good5 (l:List Nat) (h:∀ x,x∈l→x<256) (hl:l.length≤65528) (sv cv:Value) (sn n:Nat) (ks bs:Nat→Nat) (hks:∀ j,ks j<256) (hbs:∀ j,bs j<256) (hsn:sn<140737488355000) (hn:n≤65528) (N:Nat) (hN:N≤8160) (w:World) (h1:BytesIn w sv sn ks) (h2:BytesIn w cv n bs) :
 Calls Tryd.prog 7 #[sv,.string (strL l),cv,.int .i64 N] w fun e w'=>∃ s,e = .returned (.tuple #[s,.int .i64 0])∧BytesIn w' s N (exN sn ks l n bs N)∧Below w.heap.size w w':=by
 have hfi:=rfits_good l hl cv n bs hn w h2
 have hle:=exL_le l n hl hn
 obtain ⟨W0,hW0⟩:∃ W,W=w.alloc (.cells #[.int .u8 ((N / 256:Nat):Int),.int .u8 ((N%256:Nat):Int)] 5):=⟨_,rfl⟩
 have b0:Below w.heap.size w W0:=by rw [hW0];exact (Below.refl _ _).alloc (Nat.le_refl _) _
 have o0:Own w.heap.size W0 (.slice (some ⟨w.heap.size,0,none⟩) 2 2) 2 (litB [N / 256,N%256]):=by rw [hW0];exact own_two _ w _ _ (Nat.le_refl _)
 replace o0:Own w.heap.size W0 (.slice (some ⟨w.heap.size,0,none⟩) 2 2) 2 (beN N 2):=o0.congr fun j hj=>by
  rcases (show j=0∨j=1 by omega) with rfl | rfl
  · show N / 256=N / 2 ^ 8%256
    omega
  · show N%256=N / 2 ^ 0%256
    omega
 have hla:=rLabelled_good l h hl cv n bs hbs hn W0 (h2.keep b0)
 obtain ⟨T,hT1⟩:∃ T,T=v2L (8+l.length) n:=⟨_,rfl⟩
 obtain ⟨F,hF⟩:∃ F,F=v2B (8+l.length) (litB (lMls ++ l)) n bs:=⟨_,rfl⟩
 have hex:=fun (W:World) (y:Value) (hb:Below w.heap.size w W) (hy:BytesIn W y (exL l n) (exT l n bs N)) =>
  rExpand_any sv y sn (exL l n) ks (exT l n bs N) hks (exT_lt l h n bs hbs N) hsn (by omega) W (h1.keep hb) hy N hN
 have e1:exL l n=2+T:=by rw [hT1];rfl
 have e2:exT l n bs N=cat 2 (beN N 2) F:=by rw [hF];rfl
 have hE2:exN sn ks l n bs N=outF (keyB sn ks) (2+T) (cat 2 (beN N 2) F) N:=by rw [←e1,←e2];rfl
 rw [hE2]
 rw [e1,e2] at hex
 rw [e1] at hle
 obtain ⟨E,hE⟩:∃ E,E=outF (keyB sn ks) (2+T) (cat 2 (beN N 2) F) N:=⟨_,rfl⟩
 rw [←hE] at hex ⊢
 rw [←hT1,←hF] at hla
 obtain ⟨S,hS⟩:∃ S,S=strL l:=⟨_,rfl⟩
 rw [←hS] at hfi hla ⊢
 have hW:w.alloc (.cells #[.int .u8 ((N:Int) / 256),.int .u8 ((N:Int)%256)] 5)=W0:=by
  rw [hW0,show ((N / 256:Nat):Int)=(N:Int) / 256 by omega,show ((N%256:Nat):Int)=(N:Int)%256 by omega]
 rw [←hW] at hla
 have n1:¬(N:Int)<0:=by omega
 have n2:¬(8160:Int)<(N:Int):=by omega
 have HW:=Hid.mk' hW
 have B0:=Hid.mk' b0
 have O0:=Hid.mk' o0
 obtain ⟨G,hG⟩:∃ G,G=beN N 2:=⟨_,rfl⟩
 clear hS hT1 hF hE hE2 e1 e2 h1 h2 hW0 hW b0 o0
 go_enter Tryd.func7,Tryd.ntmps7
 go_wp2_with (first
  | (go_at_call 20;refine hfi.mono ?_;clear hfi;rintro e w1 ⟨rfl,hw1⟩;obtain rfl:=hw1.symm)
  | (go_at_call 15;refine hla.mono ?_;clear hla;rintro e w4 ⟨s4,rfl,own4,hb4⟩;(rw [HW.out] at hb4);(have o4:=O0.out.below hb4);(have b4:=below_next B0.out hb4);(have B4:=own4.bytesIn);(obtain ⟨x4,c4,hs4,hxn4,-,src4⟩:=B4.src);subst hs4;(have r4:=src4 w4 (Below.refl _ _)))
  | (at_builtin;refine wpList_append_bytes rfl (.tmp 28) (.tmp 31) rfl w.heap.size _ 2 (beN N 2) rfl o4 x4 T c4 F rfl r4 hxn4 (by omega) b4.size ?_;intro v5 w5 own5 hg5;have b5:=Own.grown b4 hg5 o4 (Nat.le_refl _) b4.size)
  | (go_at_call 21;refine (hex w5 v5 b5 own5.bytesIn).mono ?_;clear hex;rintro e w6 ⟨s6,rfl,B6,hb6⟩))
 go_ret2
 exact ⟨s6,rfl,B6,below_next b5 hb6⟩
theorem rExpand_bad5 (l:List Nat) (sv cv:Value) (n:Nat) (bs:Nat→Nat) (N:Int) (hN:(65528<l.length∨65528<n)∨(l.length≤65528∧n≤65528∧(N<0∨8160<N))) (w:World) (h2:BytesIn w cv n bs) :
 Calls Tryd.prog 7 #[sv,.string (strL l),cv,.int .i64 N] w fun e w'=>e = .returned (.tuple #[.slice none 0 0,.int .i64 6])∧w'=w:=by
 rcases hN with hn | ⟨hl,hn,hN⟩
 · have hfi:=rfits_long l cv n bs hn w h2
   obtain ⟨S,hS⟩:∃ S,S=strL l:=⟨_,rfl⟩
   rw [←hS] at hfi ⊢
   clear hS hn h2
   go_enter Tryd.func7,Tryd.ntmps7
   go_wp2_with (go_at_call 20;refine hfi.mono ?_;clear hfi;rintro e w1 ⟨rfl,rfl⟩)
   go_ret2
   exact ⟨rfl,rfl⟩
 · have hfi:=rfits_good l hl cv n bs hn w h2
   obtain ⟨S,hS⟩:∃ S,S=strL l:=⟨_,rfl⟩
   rw [←hS] at hfi ⊢
   clear hS hn h2 hl
   by_cases h0:N<0
   · clear hN
     go_enter Tryd.func7,Tryd.ntmps7
     go_wp2_with (go_at_call 20;refine hfi.mono ?_;clear hfi;rintro e w1 ⟨rfl,rfl⟩)
     go_ret2
     exact ⟨rfl,rfl⟩
   · have h8:8160<N:=by omega
     clear hN
     go_enter Tryd.func7,Tryd.ntmps7
     go_wp2_with (go_at_call 20;refine hfi.mono ?_;clear hfi;rintro e w1 ⟨rfl,rfl⟩)
     go_ret2
     exact ⟨rfl,rfl⟩
theorem rDerive_good5 (l:List Nat) (h:∀ x,x∈l→x<256) (hl:l.length≤65528) (sv:Value) (sn:Nat) (ks:Nat→Nat) (hks:∀ j,ks j<256) (hsn:sn<140737488355000) (w:World) (h1:BytesIn w sv sn ks) :
 Calls Tryd.prog 10 #[sv,.string (strL l)] w fun e w'=>∃ s,e = .returned s∧BytesIn w' s 32 (exN sn ks l 0 lZ 32)∧Below w.heap.size w w':=by
 have hex:=rExpand_good5 l h hl sv (.slice none 0 0) sn 0 ks lZ hks (fun _=>by show 0<256;decide) hsn (by decide) 32 (by decide) w h1 (nil_bytes w lZ)
 obtain ⟨S,hS⟩:∃ S,S=strL l:=⟨_,rfl⟩
 obtain ⟨E,hE⟩:∃ E,E=exN sn ks l 0 lZ 32:=⟨_,rfl⟩
 rw [←hS,←hE] at hex ⊢
 replace hex:Calls Tryd.prog 7 #[sv,.string S,.slice none 0 0,.int .i64 32] w _:=hex
 clear hS hE h1
 go_enter Tryd.func10,Tryd.ntmps10
 go_wp2_with (go_at_call 7;refine hex.mono ?_;clear hex;rintro e w1 ⟨s1,rfl,B1,b1⟩;(obtain ⟨x1,c1,hs1,-,-,-⟩:=B1.src);subst hs1)
 go_ret
 exact ⟨_,rfl,B1,b1⟩
theorem rDerive_long5 (l:List Nat) (hl:65528<l.length) (sv:Value) (w:World) :
 Calls Tryd.prog 10 #[sv,.string (strL l)] w fun e w'=>e = .returned (.slice none 0 0)∧w'=w:=by
 have hex:=rExpand_bad5 l sv (.slice none 0 0) 0 lZ 32 (.inl (.inl hl)) w (nil_bytes w lZ)
 obtain ⟨S,hS⟩:∃ S,S=strL l:=⟨_,rfl⟩
 rw [←hS] at hex ⊢
 clear hS hl
 go_enter Tryd.func10,Tryd.ntmps10
 go_wp2_with (go_at_call 7;refine hex.mono ?_;clear hex;rintro e w1 ⟨rfl,rfl⟩)
 go_ret
 exact ⟨rfl,rfl⟩
theorem rRef_good (l:List Nat) (h:∀ x,x∈l→x<256) (hl:l.length≤65528) (cv:Value) (n:Nat) (bs:Nat→Nat) (hbs:∀ j,bs j<256) (hn:n≤65528) (w:World) (h2:BytesIn w cv n bs) :
 Calls Tryd.prog 12 #[.string (strL l),cv] w fun e w'=>∃ s,e = .returned s∧BytesIn w' s 32 (rfN l n bs)∧Below w.heap.size w w':=by
 have hfi:=rfits_good l hl cv n bs hn w h2
 obtain ⟨xv,cc,rfl,-,-,-⟩:=h2.src
 obtain ⟨c,W,hc,hB,hb⟩:=conv_label w l h
 have hj:=rJoin_two W (.slice (some ⟨w.heap.size,0,none⟩) l.length c) (.slice xv n cc) l.length n (litB l) bs hB (h2.keep hb) (litB_lt h) hbs (by omega) (by omega)
 have hlt:=v2B_lt (a:=l.length) (b:=n) (litB_lt h) hbs
 have hle:=v2L_le l.length n
 have hsu:=fun (V:World) (y:Value) (hy:BytesIn V y (v2L l.length n) (v2B l.length (litB l) n bs)) =>
  rSum256_any y (v2L l.length n) (v2B l.length (litB l) n bs) hlt V hy (by omega)
 have b3:=hb.alloc hb.size (.cells #[.slice (some ⟨w.heap.size,0,none⟩) l.length c,.slice xv n cc] 22)
 obtain ⟨E,hE⟩:∃ E,E=rfN l n bs:=⟨_,rfl⟩
 have hE2:outB 32 (specS rn cubeK squareK (v2L l.length n) (v2B l.length (litB l) n bs))=E:=hE.symm
 rw [hE2] at hsu
 rw [←hE]
 obtain ⟨S,hS⟩:∃ S,S=strL l:=⟨_,rfl⟩
 rw [←hS] at hfi hc ⊢
 obtain ⟨T,hT1⟩:∃ T,T=v2L l.length n:=⟨_,rfl⟩
 obtain ⟨F,hF⟩:∃ F,F=v2B l.length (litB l) n bs:=⟨_,rfl⟩
 rw [←hT1,←hF] at hj hsu
 obtain ⟨K,hK⟩:∃ K,K=l.length:=⟨_,rfl⟩
 rw [←hK] at hj hc b3
 clear hS hE hE2 hT1 hF hle hlt h2 hK hB hl hn
 go_enter Tryd.func12,Tryd.ntmps12
 go_wp2_with (first
  | (go_at_call 20;refine hfi.mono ?_;clear hfi;rintro e w1 ⟨rfl,hw1⟩;obtain rfl:=hw1.symm)
  | rw [hc]
  | (go_at_call 25;refine hj.mono ?_;clear hj;rintro e w4 ⟨s4,rfl,own4,hb4⟩;(have b4:=below_next b3 (by rw [World.size_alloc];exact hb4)))
  | (go_at_call 24;refine (hsu w4 s4 own4.bytesIn).mono ?_;clear hsu;rintro e w5 ⟨s5,rfl,own5,hb5⟩))
 go_ret
 exact ⟨_,rfl,own5.bytesIn,below_next b4 hb5⟩
theorem rRef_long (l:List Nat) (cv:Value) (n:Nat) (bs:Nat→Nat) (hn:65528<l.length∨65528<n) (w:World) (h2:BytesIn w cv n bs) :
 Calls Tryd.prog 12 #[.string (strL l),cv] w fun e w'=>e = .returned (.slice none 0 0)∧w'=w:=by
 have hfi:=rfits_long l cv n bs hn w h2
 obtain ⟨S,hS⟩:∃ S,S=strL l:=⟨_,rfl⟩
 rw [←hS] at hfi ⊢
 clear hS hn h2
 go_enter Tryd.func12,Tryd.ntmps12
 go_wp2_with (go_at_call 20;refine hfi.mono ?_;clear hfi;rintro e w1 ⟨rfl,rfl⟩)
 go_ret
 exact ⟨rfl,rfl⟩
end Go.Proofs.YtibdhadbflfdpaaDoor
namespace Go.Proofs.YtibdhadbflfdpaaDoor
open Go.RowKit
theorem padH_like5 {kv kv' t t':Nat→Nat} {p m:Nat} (hk:∀ j,kv j=kv' j) (ht:∀ j,j<m→t j=t' j):padH kv p m t=padH kv' p m t':=by
 unfold padH
 rw [specS_congr (cs:=cat 64 (fun j=>kv' j ^^^ p) t') fun j hj => ?_]
 unfold cat
 by_cases h:j<64
 · rw [if_pos h,if_pos h]
   show kv j ^^^ p=kv' j ^^^ p
   rw [hk]
 · rw [if_neg h,if_neg h,ht _ (by omega)]
theorem all_at5 {f g:Nat→Nat} {n:Nat} (h:((List.range n).all fun j=>f j == g j)=true) (j:Nat) (hj:j<n):f j=g j:=by
 have:=List.all_eq_true.1 h j (List.mem_range.2 hj)
 simpa using this
theorem tag_lit5 {kv t t':Nat→Nat} {m:Nat} {I O:Nat→Nat} (ht:∀ j,j<m→t j=t' j) (h1:((List.range 32).all fun j=>padH kv 54 m t' j == I j)=true) (h2:((List.range 32).all fun j=>padH kv 92 32 I j == O j)=true) (j:Nat) (hj:j<32):tagH kv m t j=O j:=by
 unfold tagH
 rw [padH_like5 (fun _=>rfl) (fun q hq=>(by rw [padH_like5 (fun _=>rfl) ht];exact all_at5 h1 q hq:padH kv 54 m t q=I q))]
 exact all_at5 h2 j hj
def t5a:List Nat:=[0,32,9,77,76,83,32,49,46,48,32,97,0,1]
def i5a:List Nat:=[83,28,118,42,43,114,164,209,31,83,186,156,246,16,4,98,218,65,176,112,230,132,253,1,143,13,64,26,166,200,183,13]
def o5a:List Nat:=[6,187,106,38,73,168,223,37,164,173,197,69,45,92,203,94,228,95,234,158,185,138,98,181,165,136,209,18,127,78,151,11]
set_option maxRecDepth 20000 in
theorem q5a:((List.range 14).all fun j=>cat 0 (fun _=>0) (cat (exL [97] 0) (exT [97] 0 lZ 32) (fun _=>1)) j == litB t5a j)=true:=by kernel_rfl
set_option maxRecDepth 20000 in
theorem p5a:((List.range 32).all fun j=>padH (keyB 32 lZ) 54 14 (litB t5a) j == litB i5a j)=true:=by kernel_rfl
set_option maxRecDepth 20000 in
theorem s5a:((List.range 32).all fun j=>padH (keyB 32 lZ) 92 32 (litB i5a) j == litB o5a j)=true:=by kernel_rfl
theorem ex_a (j:Nat) (hj:j<32):exN 32 lZ [97] 0 lZ 32 j=litB o5a j:=by
 unfold exN outF
 rw [if_pos hj,Nat.div_eq_of_lt hj,Nat.mod_eq_of_lt hj]
 exact tag_lit5 (m:=14) (fun q hq=>all_at5 q5a q hq) p5a s5a j hj
def t5b:List Nat:=[0,32,9,77,76,83,32,49,46,48,32,98,0,1]
def i5b:List Nat:=[202,230,118,1,49,252,102,183,171,136,173,111,115,62,78,185,168,171,2,132,175,210,76,24,38,211,164,12,159,30,62,29]
def o5b:List Nat:=[70,120,94,183,192,29,83,92,80,17,87,175,173,44,16,114,100,235,247,230,213,156,135,10,82,46,250,2,88,49,182,227]
set_option maxRecDepth 20000 in
theorem q5b:((List.range 14).all fun j=>cat 0 (fun _=>0) (cat (exL [98] 0) (exT [98] 0 lZ 32) (fun _=>1)) j == litB t5b j)=true:=by kernel_rfl
set_option maxRecDepth 20000 in
theorem p5b:((List.range 32).all fun j=>padH (keyB 32 lZ) 54 14 (litB t5b) j == litB i5b j)=true:=by kernel_rfl
set_option maxRecDepth 20000 in
theorem s5b:((List.range 32).all fun j=>padH (keyB 32 lZ) 92 32 (litB i5b) j == litB o5b j)=true:=by kernel_rfl
theorem ex_b (j:Nat) (hj:j<32):exN 32 lZ [98] 0 lZ 32 j=litB o5b j:=by
 unfold exN outF
 rw [if_pos hj,Nat.div_eq_of_lt hj,Nat.mod_eq_of_lt hj]
 exact tag_lit5 (m:=14) (fun q hq=>all_at5 q5b q hq) p5b s5b j hj
theorem ex_ab:exN 32 lZ [98] 0 lZ 32 0≠exN 32 lZ [97] 0 lZ 32 0:=by
 rw [ex_a 0 (by decide),ex_b 0 (by decide)]
 decide
theorem strB_ne {n:Nat} {A B:Nat→Nat} (hA:∀ j,A j<256) (hB:∀ j,B j<256) (hn:0<n) (h:A 0≠B 0):¬strB n A=strB n B:=fun e=>h (by
 have e1:=congrArg (fun s=>s.data[0]?) e
 simp [strB,hn] at e1
 have e2:=congrArg UInt8.toNat e1
 simp [Nat.mod_eq_of_lt (hA 0),Nat.mod_eq_of_lt (hB 0)] at e2
 exact e2)
end Go.Proofs.YtibdhadbflfdpaaDoor
namespace Go.Proofs.YtibdhadbflfdpaaDoor
open Go.RowKit
theorem HTab.still5 {w w':World} {K q:Nat→Nat} (h:HTab w K q) (hb:Below w.heap.size w w'):HTab w' K q:=h.below hb h.size
structure TabAt (w:World):Prop where
 h:HTab w cubeK squareK
theorem TabAt.still {w w':World} (h:TabAt w) (hb:Below w.heap.size w w'):TabAt w':=⟨h.h.still5 hb⟩
structure LntAt (W:World) (g cap n:Nat) (bs:Nat→Nat):Prop where
 cap:n+2≤cap
 row:RowAt .u8 W g 0 (n+2) (cat n bs room)
theorem LntAt.still {W W':World} {g cap n:Nat} {bs:Nat→Nat} (h:LntAt W g cap n bs) (hb:Below W.heap.size W W'):LntAt W' g cap n bs:=⟨h.cap,h.row.below hb (block_lt_of_cell (h.row 0 (by omega)).1)⟩
theorem LntAt.bytes {W:World} {g cap n:Nat} {bs:Nat→Nat} (h:LntAt W g cap n bs):BytesIn W (.slice (some ⟨g,0,none⟩) n cap) n bs :=
 .inr ⟨g,0,cap,rfl,block_lt_of_cell (h.row 0 (by omega)).1,Nat.le_trans (Nat.le_add_right _ _) h.cap,fun j hj=>by
  have e:=(h.row j (by omega)).1
  rw [cat_left hj] at e
  exact e⟩
structure Cs (W:World) (v:Value) (S:ByteArray):Prop where
 conv:∀ w,Below W.heap.size W w→(convert 22 9 v).run Tryd.prog w = .ok (.string S) w
theorem Cs.still {W W':World} {v:Value} {S:ByteArray} (h:Cs W v S) (hb:Below W.heap.size W W'):Cs W' v S:=⟨fun w hw=>h.conv w (below_next hb hw)⟩
theorem BytesIn.cs {W:World} {v:Value} {n:Nat} {X:Nat→Nat} (h:BytesIn W v n X) (hX:∀ j,X j<256):Cs W v (strB n X):=⟨fun w hw=>h.conv hX w hw⟩
theorem outF_lt5 (kv:Nat→Nat) (m:Nat) (info:Nat→Nat) (a j:Nat):outF kv m info a j<256:=by
 unfold outF
 split
 · exact tE_lt _ _ _ _ _
 · decide
theorem exN_lt (sn:Nat) (ks:Nat→Nat) (l:List Nat) (n:Nat) (bs:Nat→Nat) (N j:Nat):exN sn ks l n bs N j<256:=outF_lt5 _ _ _ _ _
theorem rfN_lt (l:List Nat) (n:Nat) (bs:Nat→Nat) (j:Nat):rfN l n bs j<256:=by
 unfold rfN
 exact Nat.mod_lt _ (by decide)
theorem lZ_lt (j:Nat):lZ j<256:=(by decide:0<256)
abbrev AnsE (f:FuncId) (args:Array Value) (W:World) (S:ByteArray) (E:Int):Prop:=Calls Tryd.prog f args W fun e w'=>∃ x n c,e = .returned (.tuple #[.slice x n c,.int .i64 E])∧Cs w' (.slice x n c) S∧Below W.heap.size W w'
abbrev AnsB (f:FuncId) (args:Array Value) (W:World) (S:ByteArray):Prop:=Calls Tryd.prog f args W fun e w'=>∃ x n c,e = .returned (.slice x n c)∧Cs w' (.slice x n c) S∧Below W.heap.size W w'
theorem ansE {f:FuncId} {args:Array Value} {W:World} {n:Nat} {X:Nat→Nat} {E:Int} (hX:∀ j,X j<256) (h:Calls Tryd.prog f args W fun e w'=>∃ s,e = .returned (.tuple #[s,.int .i64 E])∧BytesIn w' s n X∧Below W.heap.size W w'):AnsE f args W (strB n X) E :=
 h.mono fun _ _ ⟨s,h1,h2,h3⟩=>by
  obtain ⟨x,c,rfl,-⟩:=h2.src
  exact ⟨x,n,c,h1,h2.cs hX,h3⟩
theorem ansB {f:FuncId} {args:Array Value} {W:World} {n:Nat} {X:Nat→Nat} (hX:∀ j,X j<256) (h:Calls Tryd.prog f args W fun e w'=>∃ s,e = .returned s∧BytesIn w' s n X∧Below W.heap.size W w'):AnsB f args W (strB n X) :=
 h.mono fun _ _ ⟨s,h1,h2,h3⟩=>by
  obtain ⟨x,c,rfl,-⟩:=h2.src
  exact ⟨x,n,c,h1,h2.cs hX,h3⟩
theorem ansE0 {f:FuncId} {args:Array Value} {W:World} {E:Int} (h:Calls Tryd.prog f args W fun e w'=>e = .returned (.tuple #[.slice none 0 0,.int .i64 E])∧Below W.heap.size W w'):AnsE f args W (strB 0 lZ) E :=
 h.mono fun _ _ ⟨h1,h3⟩=>⟨_,_,_,h1,(nil_bytes _ lZ).cs lZ_lt,h3⟩
theorem ansB0 {f:FuncId} {args:Array Value} {W:World} (h:Calls Tryd.prog f args W fun e w'=>e = .returned (.slice none 0 0)∧w'=W):AnsB f args W (strB 0 lZ) :=
 h.mono fun _ _ ⟨h1,h3⟩=>⟨_,_,_,h1,(nil_bytes _ lZ).cs lZ_lt,h3 ▸ Below.refl _ _⟩
theorem expand_both5 (l:List Nat) (h:∀ x,x∈l→x<256) (sn n:Nat) (ks bs:Nat→Nat) (hks:∀ j,ks j<256) (hbs:∀ j,bs j<256) (hsn:sn<140737488355000) (N:Int) :
 ∃ S E,(∀ sv cv W,TabAt W→BytesIn W sv sn ks→BytesIn W cv n bs→AnsE 6 #[sv,.string (strL l),cv,.int .i64 N] W S E)∧(∀ sv cv W,BytesIn W sv sn ks→BytesIn W cv n bs→AnsE 7 #[sv,.string (strL l),cv,.int .i64 N] W S E):=by
 by_cases hl:l.length≤65528∧n≤65528
 · by_cases hN:0≤N∧N≤8160
   · obtain ⟨M,rfl⟩:∃ M:Nat,N=(M:Int):=⟨N.toNat,by omega⟩
     exact ⟨_,_,fun sv cv W hT h1 h2=>ansE (exN_lt sn ks l n bs M) (cExpand_good l h hl.1 sv cv sn n ks bs hks hbs hsn hl.2 M (by omega) W hT.h h1 h2),fun sv cv W h1 h2=>ansE (exN_lt sn ks l n bs M) (rExpand_good5 l h hl.1 sv cv sn n ks bs hks hbs hsn hl.2 M (by omega) W h1 h2)⟩
   · exact ⟨_,6,fun sv cv W hT h1 h2=>ansE0 (cExpand_many l h hl.1 sv cv n bs hbs hl.2 N (by omega) W h2),fun sv cv W h1 h2=>ansE0 ((rExpand_bad5 l sv cv n bs N (.inr ⟨hl.1,hl.2,by omega⟩) W h2).mono fun _ _ ⟨a,b⟩=>⟨a,b ▸ Below.refl _ _⟩)⟩
 · exact ⟨_,6,fun sv cv W hT h1 h2=>ansE0 ((cExpand_long l sv cv n bs (by omega) N W h2).mono fun _ _ ⟨a,b⟩=>⟨a,b ▸ Below.refl _ _⟩),fun sv cv W h1 h2=>ansE0 ((rExpand_bad5 l sv cv n bs N (.inl (by omega)) W h2).mono fun _ _ ⟨a,b⟩=>⟨a,b ▸ Below.refl _ _⟩)⟩
theorem derive_both5 (l:List Nat) (h:∀ x,x∈l→x<256) (sn:Nat) (ks:Nat→Nat) (hks:∀ j,ks j<256) (hsn:sn<140737488355000) :
 ∃ S,(∀ sv W,TabAt W→BytesIn W sv sn ks→AnsB 9 #[sv,.string (strL l)] W S)∧(∀ sv W,BytesIn W sv sn ks→AnsB 10 #[sv,.string (strL l)] W S):=by
 by_cases hl:l.length≤65528
 · exact ⟨_,fun sv W hT h1=>ansB (exN_lt sn ks l 0 lZ 32) (cDerive_good5 l h hl sv sn ks hks hsn W hT.h h1),fun sv W h1=>ansB (exN_lt sn ks l 0 lZ 32) (rDerive_good5 l h hl sv sn ks hks hsn W h1)⟩
 · exact ⟨_,fun sv W hT h1=>ansB0 (cDerive_long5 l (by omega) sv W),fun sv W h1=>ansB0 (rDerive_long5 l (by omega) sv W)⟩
theorem ref_both5 (l:List Nat) (h:∀ x,x∈l→x<256) (n:Nat) (bs:Nat→Nat) (hbs:∀ j,bs j<256) :
 ∃ S,(∀ cv W,TabAt W→BytesIn W cv n bs→AnsB 11 #[.string (strL l),cv] W S)∧(∀ cv W,BytesIn W cv n bs→AnsB 12 #[.string (strL l),cv] W S):=by
 by_cases hl:l.length≤65528∧n≤65528
 · exact ⟨_,fun cv W hT h2=>ansB (rfN_lt l n bs) (cRef_good l h hl.1 cv n bs hbs hl.2 W hT.h h2),fun cv W h2=>ansB (rfN_lt l n bs) (rRef_good l h hl.1 cv n bs hbs hl.2 W h2)⟩
 · exact ⟨_,fun cv W hT h2=>ansB0 (cRef_long l cv n bs (by omega) W h2),fun cv W h2=>ansB0 (rRef_long l cv n bs (by omega) W h2)⟩
theorem num15_any (n:Int) (w:World):Calls Tryd.prog 8 #[.int .i64 n] w fun e w'=>e = .returned (.int .i64 n)∧w'=w:=by
 go_enter Tryd.func8,Tryd.ntmps8
 go_wp2
 go_ret
 exact ⟨rfl,rfl⟩
end Go.Proofs.YtibdhadbflfdpaaDoor
namespace Go.Proofs.YtibdhadbflfdpaaDoor
open Go.RowKit
set_option maxRecDepth 20000 in
set_option maxHeartbeats 4000000 in
theorem knows15 (w:World) (hT:TabAt w):Calls Tryd.prog 14 #[] w fun e w'=>e = .returned (.bool true)∧Below w.heap.size w w':=by
 have cE:=fun (v:Value) (W:World) (hT:TabAt W) (hv:BytesIn W v 32 lZ)=>ansE (exN_lt 32 lZ [97] 0 lZ 32) (cExpand_good [97] (by decide) (by decide) v (.slice none 0 0) 32 0 lZ lZ lZ_lt lZ_lt (by decide) (by decide) 32 (by decide) W hT.h hv (nil_bytes W lZ))
 have cA:=fun (v:Value) (W:World) (hT:TabAt W) (hv:BytesIn W v 32 lZ)=>ansB (exN_lt 32 lZ [97] 0 lZ 32) (cDerive_good5 [97] (by decide) (by decide) v 32 lZ lZ_lt (by decide) W hT.h hv)
 have cB:=fun (v:Value) (W:World) (hT:TabAt W) (hv:BytesIn W v 32 lZ)=>ansB (exN_lt 32 lZ [98] 0 lZ 32) (cDerive_good5 [98] (by decide) (by decide) v 32 lZ lZ_lt (by decide) W hT.h hv)
 have cR:=fun (v:Value) (W:World) (hT:TabAt W) (hv:BytesIn W v 32 lZ)=>cRef_good [120] (by decide) (by decide) v 32 lZ lZ_lt (by decide) W hT.h hv
 replace cE:∀ (v:Value) (W:World),TabAt W→BytesIn W v 32 lZ→Calls Tryd.prog 6 #[v,.string { data:=#[97] },.slice none 0 0,.int .i64 32] W fun e w'=>∃ x c,e = .returned (.tuple #[.slice x 32 c,.int .i64 0])∧Cs w' (.slice x 32 c) (strB 32 (exN 32 lZ [97] 0 lZ 32))∧Below W.heap.size W w':=fun v W hT hv=>(cExpand_good [97] (by decide) (by decide) v (.slice none 0 0) 32 0 lZ lZ lZ_lt lZ_lt (by decide) (by decide) 32 (by decide) W hT.h hv (nil_bytes W lZ)).mono fun _ _ ⟨s,h1,h2,h3⟩=>by
  obtain ⟨x,c,rfl,-⟩:=h2.src
  exact ⟨x,c,h1,h2.cs (exN_lt 32 lZ [97] 0 lZ 32),h3⟩
 replace cA:∀ (v:Value) (W:World),TabAt W→BytesIn W v 32 lZ→AnsB 9 #[v,.string { data:=#[97] }] W (strB 32 (exN 32 lZ [97] 0 lZ 32)):=cA
 replace cB:∀ (v:Value) (W:World),TabAt W→BytesIn W v 32 lZ→AnsB 9 #[v,.string { data:=#[98] }] W (strB 32 (exN 32 lZ [98] 0 lZ 32)):=cB
 replace cR:∀ (v:Value) (W:World),TabAt W→BytesIn W v 32 lZ→Calls Tryd.prog 11 #[.string { data:=#[120] },v] W fun e w'=>∃ s,e = .returned s∧BytesIn w' s 32 (rfN [120] 32 lZ)∧Below W.heap.size W w':=cR
 have hne:=strB_ne (n:=32) (exN_lt 32 lZ [98] 0 lZ 32) (exN_lt 32 lZ [97] 0 lZ 32) (by decide) ex_ab
 generalize strB 32 (exN 32 lZ [97] 0 lZ 32)=SA at *
 generalize strB 32 (exN 32 lZ [98] 0 lZ 32)=SB at *
 have e1:(SA.toList == SA.toList)=true:=beq_self_eq_true _
 have e2:(SB.toList == SA.toList)=false:=by
  rw [beq_eq_false_iff_ne]
  exact fun e=>hne (WideShapes.bytes_inj (by simpa [ByteArray.toList_eq] using e))
 have e3:(SB.toList != SA.toList)=true:=by rw [bne,e2];rfl
 have hzb:BytesIn (w.alloc (.cells (zb 32) 5)) (.slice (some ⟨w.heap.size,0,none⟩) 32 32) 32 lZ:=(Own.made w.heap.size w 32 (by decide) (Nat.le_refl _)).bytesIn
 have b1:Below w.heap.size w (w.alloc (.cells (zb 32) 5)):=(Below.refl _ _).alloc (Nat.le_refl _) _
 have cE1:=cE _ _ (hT.still b1) hzb
 have hm:=make_bytes w 32 32 rfl (by decide)
 clear cE hne
 have HB:=Hid.mk' hzb
 have B1:=Hid.mk' b1
 have HT:=Hid.mk' hT
 clear hzb b1 hT
 go_enter Tryd.func14,Tryd.ntmps14
 go_upto_region 3 with (first
  | rw [hm]
  | (go_at_call 6;refine cE1.mono ?_;clear cE1;rintro e w2 ⟨xa,ca,rfl,ta,hb2⟩))
 have bz:=HB.out.still hb2
 have hw:=below_next B1.out hb2
 have hT:=HT.out.still hw
 clear HB B1 HT hb2
 have hdrew:Below w2.heap.size w2 w2.drew:=(Below.refl _ _).drew
 replace hT:=hT.still hdrew
 replace bz:=bz.still hdrew
 replace ta:=ta.still hdrew
 replace hw:=below_next hw hdrew
 clear hdrew
 refine wp_region_noPanic ?_
 refine wp_region_held_drew (S:=fun w'=>Below w2.drew.heap.size w2.drew w') (by kernel_rfl) (Below.refl _ _) (fun hHeld => ?_)
 clear hHeld
 refine tg 0 bR ?_
 (try simp only [pS])
 refine wpAnyH_ready (rs:=[1]) (by kernel_rfl) (by simp) ?_
 refine AllReadyH.cons (o:=oN 11 (cF1 8 #[oT 10] #[24]) 3 "law.go:20" #[jD 0]) rfl (fun K hK => ?_) AllReadyH.nil
 go_simp
 (go_at_call 8;refine (num15_any _ _).mono ?_;rintro e wn ⟨rfl,hwn⟩;subst hwn)
 (try go_simp)
 refine hK.out _ _ (Below.refl _ _) (fun h => ?_)
 clear h hK K
 (try simp only [pS])
 refine tg 2 bR ?_
 (try simp only [pS])
 refine tg 3 bR ?_
 (try simp only [pS])
 refine tg 4 bR ?_
 (try simp only [pS])
 refine tg 5 bR ?_
 (try simp only [pS])
 refine tg 6 bR ?_
 (try simp only [pS])
 refine tg 7 bR ?_
 (try simp only [pS])
 refine tg 8 bR ?_
 (try simp only [pS])
 refine tg 9 bR ?_
 (try simp only [pS])
 refine tg 12 bR ?_
 (try simp only [pS])
 refine tk 13 _ bR (hy := .inl ⟨by rfl,fun w hSw=>by have q:=ta.conv w hSw;go_simp;try with_reducible rfl⟩) (h := ?_)
 (try simp only [pS])
 refine cn 10 (cA _ _ hT bz) ?_
 (rintro e w11 ⟨x11,n11,c11,rfl,t11,hb11⟩)
 refine ⟨_,rfl,hb11,?_⟩
 replace hT:=hT.still hb11
 replace bz:=bz.still hb11
 replace ta:=ta.still hb11
 replace hw:=below_next hw hb11
 clear hb11
 (try simp only [pS])
 refine tk 11 _ bR (hy := .inl ⟨by rfl,fun w hSw=>by have q:=t11.conv w hSw;go_simp;try with_reducible rfl⟩) (h := ?_)
 (try simp only [pS])
 refine tg 14 bR ?_
 (try simp only [pS])
 refine tg 15 bR ?_
 (try simp only [pS])
 refine tg 16 bR ?_
 (try simp only [pS])
 refine tg 17 bR ?_
 (try simp only [pS])
 refine tg 20 bR ?_
 (try simp only [pS])
 refine tk 21 _ bR (hy := .inl ⟨by rfl,fun w hSw=>by have q:=ta.conv w hSw;go_simp;try with_reducible rfl⟩) (h := ?_)
 (try simp only [pS])
 refine cn 18 (cB _ _ hT bz) ?_
 (rintro e w12 ⟨x12,n12,c12,rfl,t12,hb12⟩)
 refine ⟨_,rfl,hb12,?_⟩
 replace hT:=hT.still hb12
 replace bz:=bz.still hb12
 replace ta:=ta.still hb12
 replace t11:=t11.still hb12
 replace hw:=below_next hw hb12
 clear hb12
 (try simp only [pS])
 refine tk 19 _ bR (hy := .inl ⟨by rfl,fun w hSw=>by have q:=t12.conv w hSw;go_simp;try with_reducible rfl⟩) (h := ?_)
 (try simp only [pS])
 refine tg 22 bR ?_
 (try simp only [pS])
 refine tg 23 bR ?_
 (try simp only [pS])
 refine tg 24 bR ?_
 (try simp only [pS])
 refine tg 25 bR ?_
 (try simp only [pS])
 refine cn 26 (cR _ _ hT bz) ?_
 (rintro e w13 ⟨s13,rfl,y13,hb13⟩;(obtain ⟨x13,c13,hs13,-⟩:=y13.src);subst hs13)
 refine ⟨_,rfl,hb13,?_⟩
 replace hT:=hT.still hb13
 replace bz:=bz.still hb13
 replace ta:=ta.still hb13
 replace t11:=t11.still hb13
 replace t12:=t12.still hb13
 replace hw:=below_next hw hb13
 clear hb13
 (try simp only [pS])
 refine tg 27 bR ?_
 (try simp only [pS])
 refine tg 28 bR ?_
 (try simp only [pS])
 refine tg 29 bR ?_
 (try simp only [pS])
 refine tg 30 bR ?_
 (try simp only [pS])
 refine wpAnyH_done (by kernel_rfl) ?_ _
 refine NoPanic.normal ?_
 go_wp2
 go_ret
 exact ⟨rfl,hw⟩
set_option maxRecDepth 20000 in
set_option maxHeartbeats 4000000 in
theorem labelsKeys_any (v0 v2:Value) (l:List Nat) (hl:∀ x,x∈l→x<256) (n0 n2:Nat) (b0 b2:Nat→Nat) (lb0:∀ j,b0 j<256) (lb2:∀ j,b2 j<256) (k0:n0<140737488355000) (k2:n2<140737488355000) (N:Int) (w:World) (hT:TabAt w) (bs:BytesIn w v0 n0 b0) (bc:BytesIn w v2 n2 b2) :
 Calls Tryd.prog 3 #[v0,.string (strL l),v2,.int .i64 N] w fun e w'=>e = .returned (.bool true)∧Below w.heap.size w w':=by
 obtain ⟨SE,E,cE,rE⟩:=expand_both5 l hl n0 n2 b0 b2 lb0 lb2 k0 N
 obtain ⟨SD,cD,rD⟩:=derive_both5 l hl n0 b0 lb0 k0
 obtain ⟨SR,cR,rR⟩:=ref_both5 l hl n2 b2 lb2
 generalize strL l=S at *
 have e1:(SE.toList == SE.toList)=true:=beq_self_eq_true _
 have e2:(SD.toList == SD.toList)=true:=beq_self_eq_true _
 have e3:(SR.toList == SR.toList)=true:=beq_self_eq_true _
 have c1:=lent_any v0 n0 b0 w bs k0
 have c2:=fun W (h:BytesIn W v2 n2 b2)=>lent_any v2 n2 b2 W h k2
 have HT:=Hid.mk' hT
 have BS:=Hid.mk' bs
 have BC:=Hid.mk' bc
 have ev0:=bs.src
 have ev2:=bc.src
 clear hT bs bc
 obtain ⟨x0,d0,rfl,-⟩:=ev0
 obtain ⟨x2,d2,rfl,-⟩:=ev2
 go_enter Tryd.func3,Tryd.ntmps3
 go_upto_region 5 with (first
  | (go_at_call 5;refine c1.mono ?_;clear c1;rintro e w1 ⟨g1,m1,rfl,hc1,-,r1,hb1⟩;(have l1:LntAt w1 g1 m1 n0 b0:=⟨hc1,r1⟩);(have c2':=c2 w1 (BC.out.still hb1));clear c2 hc1 r1)
  | (go_at_call 5;refine c2'.mono ?_;clear c2';rintro e w2 ⟨g2,m2,rfl,hc2,-,r2,hb2⟩;(have l2:LntAt w2 g2 m2 n2 b2:=⟨hc2,r2⟩);(replace l1:=l1.still hb2);(have hw:=below_next hb1 hb2);(have cE1:=cE _ _ w2 (HT.out.still hw) l1.bytes l2.bytes);clear cE hc2 r2 hb1 hb2)
  | (go_at_call 6;refine cE1.mono ?_;clear cE1;rintro e w3 ⟨x3,n3,c3,rfl,t3,hb3⟩;(replace hw:=below_next hw hb3);(replace l1:=l1.still hb3);(replace l2:=l2.still hb3);(have rE1:=rE _ _ w3 (BS.out.still hw) (BC.out.still hw));clear rE hb3)
  | (go_at_call 7;refine rE1.mono ?_;clear rE1;rintro e w4 ⟨x4,n4,c4,rfl,t4,hb4⟩;(replace hw:=below_next hw hb4);(replace l1:=l1.still hb4);(replace l2:=l2.still hb4);(replace t3:=t3.still hb4);(have hT:=HT.out.still hw);(have bs:=BS.out.still hw);(have bc:=BC.out.still hw);clear hb4 HT BS BC))
 have hdrew:Below w4.heap.size w4 w4.drew:=(Below.refl _ _).drew
 replace hT:=hT.still hdrew
 replace bs:=bs.still hdrew
 replace bc:=bc.still hdrew
 replace l1:=l1.still hdrew
 replace l2:=l2.still hdrew
 replace t3:=t3.still hdrew
 replace t4:=t4.still hdrew
 replace hw:=below_next hw hdrew
 clear hdrew
 refine wp_region_noPanic ?_
 refine wp_region_held_drew (S:=fun w'=>Below w4.drew.heap.size w4.drew w') (by kernel_rfl) (Below.refl _ _) (fun hHeld => ?_)
 clear hHeld
 refine tg 0 bR ?_
 (try simp only [pS])
 refine tk 1 _ bR (hy := .inl ⟨by rfl,fun w hSw=>by have q:=t3.conv w hSw;go_simp;try with_reducible rfl⟩) (h := ?_)
 (try simp only [pS])
 refine tg 2 bR ?_
 (try simp only [pS])
 refine tk 3 _ bR (hy := .inl ⟨by rfl,fun w hSw=>by have q:=t4.conv w hSw;go_simp;try with_reducible rfl⟩) (h := ?_)
 (try simp only [pS])
 refine tg 4 bR ?_
 (try simp only [pS])
 refine tg 5 bR ?_
 (try simp only [pS])
 refine tg 6 bR ?_
 (try simp only [pS])
 refine tg 8 bR ?_
 (try simp only [pS])
 refine wpAnyH_ready (rs:=[7]) (by kernel_rfl) (by simp) ?_
 refine AllReadyH.cons (o:={ dst:=some 42,op:=cF1 8 #[oT 41] #[24],type:=3,pos := "law.go:29", after:=#[jD 6,jC 5,jG 5],guard:=some (5,true) }) rfl (fun K hK => ?_) AllReadyH.nil
 go_simp
 (go_at_call 8;refine (num15_any _ _).mono ?_;rintro e wn ⟨rfl,hwn⟩;subst hwn)
 (try go_simp)
 refine hK.out _ _ (Below.refl _ _) (fun h => ?_)
 clear h hK K
 (try simp only [pS])
 refine tg 9 bR ?_
 (try simp only [pS])
 refine tg 10 bR ?_
 (try simp only [pS])
 refine tg 11 bR ?_
 (try simp only [pS])
 refine tg 12 bR ?_
 (try simp only [pS])
 refine tg 13 bR ?_
 (try simp only [pS])
 refine tg 16 bR ?_
 (try simp only [pS])
 refine tg 17 bR ?_
 (try simp only [pS])
 refine cn 14 (cD _ _ hT l1.bytes) ?_
 (rintro e w11 ⟨x11,n11,c11,rfl,t11,hb11⟩)
 refine ⟨_,rfl,hb11,?_⟩
 replace hT:=hT.still hb11
 replace bs:=bs.still hb11
 replace bc:=bc.still hb11
 replace l1:=l1.still hb11
 replace l2:=l2.still hb11
 replace t3:=t3.still hb11
 replace t4:=t4.still hb11
 replace hw:=below_next hw hb11
 clear hb11
 (try simp only [pS])
 refine tk 15 _ bR (hy := .inl ⟨by rfl,fun w hSw=>by have q:=t11.conv w hSw;go_simp;try with_reducible rfl⟩) (h := ?_)
 (try simp only [pS])
 refine cn 18 (rD _ _ bs) ?_
 (rintro e w12 ⟨x12,n12,c12,rfl,t12,hb12⟩)
 refine ⟨_,rfl,hb12,?_⟩
 replace hT:=hT.still hb12
 replace bs:=bs.still hb12
 replace bc:=bc.still hb12
 replace l1:=l1.still hb12
 replace l2:=l2.still hb12
 replace t3:=t3.still hb12
 replace t4:=t4.still hb12
 replace t11:=t11.still hb12
 replace hw:=below_next hw hb12
 clear hb12
 (try simp only [pS])
 refine tk 19 _ bR (hy := .inl ⟨by rfl,fun w hSw=>by have q:=t12.conv w hSw;go_simp;try with_reducible rfl⟩) (h := ?_)
 (try simp only [pS])
 refine tg 20 bR ?_
 (try simp only [pS])
 refine tg 21 bR ?_
 (try simp only [pS])
 refine tg 22 bR ?_
 (try simp only [pS])
 refine tg 23 bR ?_
 (try simp only [pS])
 refine tg 24 bR ?_
 (try simp only [pS])
 refine tg 27 bR ?_
 (try simp only [pS])
 refine tg 28 bR ?_
 (try simp only [pS])
 refine cn 25 (cR _ _ hT l2.bytes) ?_
 (rintro e w13 ⟨x13,n13,c13,rfl,t13,hb13⟩)
 refine ⟨_,rfl,hb13,?_⟩
 clear t11
 clear t12
 replace hT:=hT.still hb13
 replace bs:=bs.still hb13
 replace bc:=bc.still hb13
 replace l1:=l1.still hb13
 replace l2:=l2.still hb13
 replace t3:=t3.still hb13
 replace t4:=t4.still hb13
 replace hw:=below_next hw hb13
 clear hb13
 (try simp only [pS])
 refine tk 26 _ bR (hy := .inl ⟨by rfl,fun w hSw=>by have q:=t13.conv w hSw;go_simp;try with_reducible rfl⟩) (h := ?_)
 (try simp only [pS])
 refine cn 29 (rR _ _ bc) ?_
 (rintro e w14 ⟨x14,n14,c14,rfl,t14,hb14⟩)
 refine ⟨_,rfl,hb14,?_⟩
 replace hT:=hT.still hb14
 replace bs:=bs.still hb14
 replace bc:=bc.still hb14
 replace l1:=l1.still hb14
 replace l2:=l2.still hb14
 replace t3:=t3.still hb14
 replace t4:=t4.still hb14
 replace t13:=t13.still hb14
 replace hw:=below_next hw hb14
 clear hb14
 (try simp only [pS])
 refine tk 30 _ bR (hy := .inl ⟨by rfl,fun w hSw=>by have q:=t14.conv w hSw;go_simp;try with_reducible rfl⟩) (h := ?_)
 (try simp only [pS])
 refine tg 31 bR ?_
 (try simp only [pS])
 refine tg 32 bR ?_
 (try simp only [pS])
 refine tg 33 bR ?_
 (try simp only [pS])
 refine tg 34 bR ?_
 (try simp only [pS])
 refine tg 35 bR ?_
 (try simp only [pS])
 refine cn 36 (stays_any g1 m1 n0 _ b0 lb0 _ k0 l1.cap l1.row bs) ?_
 (rintro e w15 ⟨rfl,hb15⟩)
 refine ⟨_,rfl,hb15,?_⟩
 clear t13
 clear t14
 replace hT:=hT.still hb15
 replace bs:=bs.still hb15
 replace bc:=bc.still hb15
 replace l1:=l1.still hb15
 replace l2:=l2.still hb15
 replace t3:=t3.still hb15
 replace t4:=t4.still hb15
 replace hw:=below_next hw hb15
 clear hb15
 (try simp only [pS])
 refine tg 37 bR ?_
 (try simp only [pS])
 refine tg 38 bR ?_
 (try simp only [pS])
 refine tg 39 bR ?_
 (try simp only [pS])
 refine tg 40 bR ?_
 (try simp only [pS])
 refine cn 41 (stays_any g2 m2 n2 _ b2 lb2 _ k2 l2.cap l2.row bc) ?_
 (rintro e w16 ⟨rfl,hb16⟩)
 refine ⟨_,rfl,hb16,?_⟩
 replace hT:=hT.still hb16
 replace bs:=bs.still hb16
 replace bc:=bc.still hb16
 replace l1:=l1.still hb16
 replace l2:=l2.still hb16
 replace t3:=t3.still hb16
 replace t4:=t4.still hb16
 replace hw:=below_next hw hb16
 clear hb16
 (try simp only [pS])
 refine tg 42 bR ?_
 (try simp only [pS])
 refine tg 43 bR ?_
 (try simp only [pS])
 refine cn 44 (knows15 _ hT) ?_
 (rintro e w17 ⟨rfl,hb17⟩)
 refine ⟨_,rfl,hb17,?_⟩
 replace hT:=hT.still hb17
 replace bs:=bs.still hb17
 replace bc:=bc.still hb17
 replace l1:=l1.still hb17
 replace l2:=l2.still hb17
 replace t3:=t3.still hb17
 replace t4:=t4.still hb17
 replace hw:=below_next hw hb17
 clear hb17
 (try simp only [pS])
 refine tg 45 bR ?_
 (try simp only [pS])
 refine tg 46 bR ?_
 (try simp only [pS])
 refine wpAnyH_done (by kernel_rfl) ?_ _
 refine NoPanic.normal ?_
 go_wp2
 go_ret
 exact ⟨rfl,hw⟩
end Go.Proofs.YtibdhadbflfdpaaDoor
namespace Go.Proofs.YtibdhadbflfdpaaDoor
open Go Go.RowKit
def lay (cs:Array Value):Obj→Obj
 | .cells _ t frozen => .cells cs t frozen
 | o=>o
theorem cellsOfI:Tryd.prog.cellsOf 3=1:=by kernel_rfl
theorem cellsOfU:Tryd.prog.cellsOf 43=1:=by kernel_rfl
theorem cellsOf3U:Tryd.prog.cellsOf 61=3:=by kernel_rfl
theorem cellsOfW:Tryd.prog.cellsOf 78=1:=by kernel_rfl
theorem cellsOf80W:Tryd.prog.cellsOf 92=80:=by kernel_rfl
theorem cellsOf8W:Tryd.prog.cellsOf 79=8:=by kernel_rfl
theorem rules_parts {H:Type} {enc:TypeId × Value→H} {w:World} {base:Nat} {sp:Nat→Bool} {held:Bool} {fuel:Nat} {cs:List Value} {a b:Int} {x y z u:List Int} {p:List MemPlace}
 (h:DataW.trod enc Tryd.prog w base sp held fuel 63 cs=some (.agg [.lit (.int .i64 a),.lit (.int .i64 b),Lib.tabData .u64 x,Lib.tabData .u64 y,Lib.tabData .u64 z,Lib.tabData .u64 u],p)) :
 (cs.drop 0).take 1=[.int .i64 a]∧(cs.drop 1).take 1=[.int .i64 b]∧(cs.drop 2).take 3=x.map (fun v=>Value.int .u64 v)∧(cs.drop 5).take 3=y.map (fun v=>Value.int .u64 v)∧(cs.drop 8).take 3=z.map (fun v=>Value.int .u64 v)∧(cs.drop 11).take 3=u.map (fun v=>Value.int .u64 v):=by
 cases fuel with
 | zero=>simp [DataW.trod] at h
 | succ fuel =>
  simp only [DataW.trod,Tryd.underlying63] at h
  split at h
  · obtain ⟨xs,hm,hx⟩:=Option.map_eq_some_iff.1 h
    have hxs:=congrArg Prod.fst hx
    simp only [DataW.agg.injEq] at hxs
    have hlen:xs.length=6:=by have:=congrArg List.length hxs;simpa using this
    have g:∀ i f,(i<6)→[(3,0),(3,1),(61,2),(61,5),(61,8),(61,11)][i]? = some f→∃ y,xs[i]? = some y∧DataW.trod enc Tryd.prog w base sp held fuel f.1 ((cs.drop f.2).take (Tryd.prog.cellsOf f.1))=some y:=fun i f hi hf=>by
     match i,hi,hf with
     | 0,_,hf=>cases hf;exact Lib.mapM_at hm 0 _ rfl
     | 1,_,hf=>cases hf;exact Lib.mapM_at hm 1 _ rfl
     | 2,_,hf=>cases hf;exact Lib.mapM_at hm 2 _ rfl
     | 3,_,hf=>cases hf;exact Lib.mapM_at hm 3 _ rfl
     | 4,_,hf=>cases hf;exact Lib.mapM_at hm 4 _ rfl
     | 5,_,hf=>cases hf;exact Lib.mapM_at hm 5 _ rfl
    match xs,hlen,hxs,g with
    | [x0,x1,x2,x3,x4,x5],_,hxs,g =>
     simp only [List.map_cons,List.map_nil,List.cons.injEq,and_true] at hxs
     obtain ⟨e0,e1,e2,e3,e4,e5⟩:=hxs
     obtain ⟨_,h0,t0⟩:=g 0 _ (by decide) rfl
     obtain ⟨_,h1,t1⟩:=g 1 _ (by decide) rfl
     obtain ⟨_,h2,t2⟩:=g 2 _ (by decide) rfl
     obtain ⟨_,h3,t3⟩:=g 3 _ (by decide) rfl
     obtain ⟨_,h4,t4⟩:=g 4 _ (by decide) rfl
     obtain ⟨_,h5,t5⟩:=g 5 _ (by decide) rfl
     cases h0;cases h1;cases h2;cases h3;cases h4;cases h5
     rw [cellsOfI] at t0 t1
     rw [cellsOf3U] at t2 t3 t4 t5
     obtain ⟨z0,c0,r0,_⟩:=DataW.trod_int Tryd.underlying3 t0
     obtain ⟨z1,c1,r1,_⟩:=DataW.trod_int Tryd.underlying3 t1
     subst r0 r1
     cases e0;cases e1
     have k:∀ {o:Nat} {v:DataW H × List MemPlace} {l:List Int},DataW.trod enc Tryd.prog w base sp held fuel 61 ((cs.drop o).take 3)=some v→v.1=Lib.tabData .u64 l→(cs.drop o).take 3=l.map (fun v=>Value.int .u64 v):=fun {o v l} ht he=>by
      obtain ⟨v1,v2⟩:=v
      cases he
      exact Lib.cells_of_tab Tryd.underlying61 Tryd.underlying43 cellsOfU cellsOf3U ht
     exact ⟨c0,c1,k t2 e2,k t3 e3,k t4 e4,k t5 e5⟩
  · cases h
theorem at_of_part {cs:List Value} {o n:Nat} {l:List Value} (h:(cs.drop o).take n=l) (i:Nat) (hi:i<n):cs[o+i]? = l[i]?:=by
 rw [←h,List.getElem?_take,if_pos hi,List.getElem?_drop]
theorem cubesL_eq:Rows.laid_synod_sha_cubes=(Lib.tabData .u64 (cubesL.map fun n:Nat=>(n:Int)):DataW Unit):=rfl
theorem squaresL_eq:Rows.laid_synod_sha_squares=(Lib.tabData .u64 (squaresL.map fun n:Nat=>(n:Int)):DataW Unit):=rfl
theorem gCubes:Tryd.prog.globalNamed "synod/sha.cubes" = some 2:=by kernel_rfl
theorem gSquares:Tryd.prog.globalNamed "synod/sha.squares" = some 1:=by kernel_rfl
theorem gNarrow:Tryd.prog.globalNamed "synod/sha.narrowRules" = some 0:=by kernel_rfl
theorem gWide:Tryd.prog.globalNamed "synod/sha.wideRules" = some 3:=by kernel_rfl
theorem tCubes:(Tryd.prog.globals[2]?).map (·.type)=some 92:=by kernel_rfl
theorem tSquares:(Tryd.prog.globals[1]?).map (·.type)=some 79:=by kernel_rfl
theorem tNarrow:(Tryd.prog.globals[0]?).map (·.type)=some 63:=by kernel_rfl
theorem tWide:(Tryd.prog.globals[3]?).map (·.type)=some 63:=by kernel_rfl
theorem tab_cell {W:World} {name:String} {g:Nat} {l:List Nat} {cs:Array Value} (hg:Tryd.prog.globalNamed name=some g) (hv:W.var? Tryd.prog name=some cs) (hc:cs.toList=(l.map fun n:Nat=>(n:Int)).map fun z=>Value.int .u64 z) (j:Nat) (hj:j<l.length):W.cell? ⟨g,j,none⟩=some (.int .u64 ((l.getD j 0:Nat):Int)):=by
 rw [World.var?_cell hg hv j,←Array.getElem?_toList,hc]
 simp [List.getD,hj]
theorem sha_of_laid {W:World} (h:laidMetH Tryd.prog [("synod/sha.cubes", Rows.laid_synod_sha_cubes),("synod/sha.squares", Rows.laid_synod_sha_squares),("synod/sha.narrowRules", Rows.laid_synod_sha_narrowRules),("synod/sha.wideRules", Rows.laid_synod_sha_wideRules)] W):HTab W cubeK squareK:=by
 have h':laidMet Tryd.prog [("synod/sha.cubes", Rows.laid_synod_sha_cubes),("synod/sha.squares", Rows.laid_synod_sha_squares),("synod/sha.narrowRules", Rows.laid_synod_sha_narrowRules),("synod/sha.wideRules", Rows.laid_synod_sha_wideRules)] W:=h
 obtain ⟨ps,⟨g1,t1,cs1,f1,p1,q1,hg1,ht1,hv1,hd1,⟨g2,t2,cs2,f2,p2,q2,hg2,ht2,hv2,hd2,⟨g3,t3,cs3,f3,p3,q3,hg3,ht3,hv3,hd3,⟨g4,t4,cs4,f4,p4,q4,hg4,ht4,hv4,hd4,_,_⟩,_⟩,_⟩,_⟩,_⟩:=h'
 obtain rfl:=Option.some.inj (gCubes.symm.trans hg1)
 obtain rfl:=Option.some.inj (tCubes.symm.trans ht1)
 obtain rfl:=Option.some.inj (gSquares.symm.trans hg2)
 obtain rfl:=Option.some.inj (tSquares.symm.trans ht2)
 obtain rfl:=Option.some.inj (gNarrow.symm.trans hg3)
 obtain rfl:=Option.some.inj (tNarrow.symm.trans ht3)
 obtain rfl:=Option.some.inj (gWide.symm.trans hg4)
 obtain rfl:=Option.some.inj (tWide.symm.trans ht4)
 rw [cubesL_eq] at hd1
 rw [squaresL_eq] at hd2
 have c1:=Lib.cells_of_tab Tryd.underlying92 Tryd.underlying78 cellsOfW cellsOf80W hd1
 have c2:=Lib.cells_of_tab Tryd.underlying79 Tryd.underlying78 cellsOfW cellsOf8W hd2
 obtain ⟨a0,a1,a2,a3,a4,a5⟩:=rules_parts (a:=32) (b:=64) (x:=[7,18,3]) (y:=[17,19,10]) (z:=[2,13,22]) (u:=[6,11,25]) hd3
 obtain ⟨b0,b1,b2,b3,b4,b5⟩:=rules_parts (a:=64) (b:=80) (x:=[1,8,7]) (y:=[19,61,6]) (z:=[28,34,39]) (u:=[14,18,41]) hd4
 have n:∀ j,W.cell? ⟨0,j,none⟩=cs3.toList[j]?:=fun j=>by rw [World.var?_cell gNarrow hv3 j,Array.getElem?_toList]
 have v:∀ j,W.cell? ⟨3,j,none⟩=cs4.toList[j]?:=fun j=>by rw [World.var?_cell gWide hv4 j,Array.getElem?_toList]
 refine ⟨fun j hj=>tab_cell gCubes hv1 c1 j hj,fun j hj=>tab_cell gSquares hv2 c2 j hj,?_,?_,cubeK_lt,squareK_lt⟩
 · exact ⟨(n 0).trans (at_of_part a0 0 (by decide)),(n 1).trans (at_of_part a1 0 (by decide)),(n 2).trans (at_of_part a2 0 (by decide)),(n 3).trans (at_of_part a2 1 (by decide)),(n 4).trans (at_of_part a2 2 (by decide)),(n 5).trans (at_of_part a3 0 (by decide)),(n 6).trans (at_of_part a3 1 (by decide)),(n 7).trans (at_of_part a3 2 (by decide)),(n 8).trans (at_of_part a4 0 (by decide)),(n 9).trans (at_of_part a4 1 (by decide)),(n 10).trans (at_of_part a4 2 (by decide)),(n 11).trans (at_of_part a5 0 (by decide)),(n 12).trans (at_of_part a5 1 (by decide)),(n 13).trans (at_of_part a5 2 (by decide))⟩
 · exact ⟨(v 0).trans (at_of_part b0 0 (by decide)),(v 1).trans (at_of_part b1 0 (by decide)),(v 2).trans (at_of_part b2 0 (by decide)),(v 3).trans (at_of_part b2 1 (by decide)),(v 4).trans (at_of_part b2 2 (by decide)),(v 5).trans (at_of_part b3 0 (by decide)),(v 6).trans (at_of_part b3 1 (by decide)),(v 7).trans (at_of_part b3 2 (by decide)),(v 8).trans (at_of_part b4 0 (by decide)),(v 9).trans (at_of_part b4 1 (by decide)),(v 10).trans (at_of_part b4 2 (by decide)),(v 11).trans (at_of_part b5 0 (by decide)),(v 12).trans (at_of_part b5 1 (by decide)),(v 13).trans (at_of_part b5 2 (by decide))⟩
def tabA (l:List Nat):Array Value:=(l.map fun n:Nat=>Value.int .u64 (n:Int)).toArray
def rulA (m r:Nat) (l:List Nat):Array Value:=([Value.int .i64 m,.int .i64 r] ++ l.map fun n:Nat=>Value.int .u64 (n:Int)).toArray
noncomputable def laidWorldH (os:Os):World :=
 { World.holding Tryd.prog os ⟨#[],#[],[]⟩ with heap:=(((((World.holding Tryd.prog os ⟨#[],#[],[]⟩).heap.modify 2 (lay (tabA cubesL))).modify 1 (lay (tabA squaresL))).modify 0 (lay (rulA 32 64 [7,18,3,17,19,10,2,13,22,6,11,25]))).modify 3 (lay (rulA 64 80 [1,8,7,19,61,6,28,34,39,14,18,41]))) }
end Go.Proofs.YtibdhadbflfdpaaDoor
namespace Go.Proofs.YtibdhadbflfdpaaDoor
open Go.RowKit
def litS (s:ByteArray):List Nat:=s.data.toList.map UInt8.toNat
theorem litS_lt (s:ByteArray):∀ x,x∈litS s→x<256:=by
 intro x hx
 obtain ⟨y,-,rfl⟩:=List.mem_map.1 hx
 exact y.toNat_lt
theorem str_lit (s:ByteArray):strL (litS s)=s:=by
 apply ByteArray.ext
 unfold strL litS
 rw [List.map_map]
 have e:(UInt8.ofNat ∘ UInt8.toNat)=id:=by
  funext y
  exact UInt8.ofNat_toNat
 rw [e,List.map_id]
theorem str_reach {H:Type} {ts:List TypeId} {ds:List (DataW H)} (hR:(DataW.weightsEach Tryd.prog ts ds).all (·≤reachBytes)=true) {j:Nat} {s:ByteArray} (ht:ts[j]? = some 9) (hd:ds[j]? = some (.lit (.string s.data.toList))):s.size<140737488355000:=by
 have h:=sized_string hR ht hd
 have e:s.data.toList.length=s.size:=Array.length_toList
 rw [e] at h
 unfold reachBytes at h
 omega
end Go.Proofs.YtibdhadbflfdpaaDoor
