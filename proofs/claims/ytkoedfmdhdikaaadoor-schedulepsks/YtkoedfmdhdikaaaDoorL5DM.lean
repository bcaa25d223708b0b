/- What the proof stands on: L5D, L5N, L5E. -/
import Derived.Test.YtkoedfmdhdikaaaDoorBaseM
import Derived.Test.YtkoedfmdhdikaaaDoorL5AM
import Derived.Test.YtkoedfmdhdikaaaDoorRFnM
import Derived.Test.YtkoedfmdhdikaaaDoorV6AM
namespace Go.Proofs.YtkoedfmdhdikaaaDoor
open Go.RowKit
theorem strL_app (l r:List Nat):strL l ++ strL r=strL (l ++ r):=by
 apply ByteArray.ext
 simp [strL]
theorem rfits_good (l:List Nat) (hl:l.length≤65528) (v:Value) (n:Nat) (bs:Nat→Nat) (hn:n≤65528) (w:World) (hv:BytesIn w v n bs) :
 Calls Tryd.prog 40 #[.string (strL l),v] w fun e w'=>e = .returned (.bool true)∧w'=w:=by
 obtain ⟨xv,cv,rfl,-,-,-⟩:=hv.src
 have hsz:=strL_size l
 obtain ⟨S,hS⟩:∃ S,S=strL l:=⟨_,rfl⟩
 rw [←hS] at hsz ⊢
 have h1:(S.size:Int)≤65528:=by rw [hsz];omega
 have h2:(n:Int)≤65528:=by omega
 clear hS hsz hv hl hn
 go_enter Tryd.func40,Tryd.ntmps40
 go_wp2
 go_ret
 exact ⟨rfl,rfl⟩
theorem rJoin_two (w:World) (v u:Value) (a b:Nat) (A B:Nat→Nat) (h1:BytesIn w v a A) (h2:BytesIn w u b B) (hA:∀ j,A j<256) (hB:∀ j,B j<256) (ha:a≤65536) (hb:b≤65536) :
 Calls Tryd.prog 20 #[.slice (some ⟨w.heap.size,0,none⟩) 2 2] (w.alloc (.cells #[v,u] 24)) fun e w'=>∃ s,e = .returned s∧Own (w.heap.size+1) w' s (v2L a b) (v2B a A b B)∧Below (w.heap.size+1) (w.alloc (.cells #[v,u] 24)) w':=by
 have h:=rJoin_any (some ⟨w.heap.size,0,none⟩) 2 2 _ (pn2 a b) (pb2 A B) (fun i _=>by unfold pn2;split;exact ha;exact hb) (by decide) (by show 0+a+b≤_;omega) _ (pieces_two w v u a b A B 24 h1 h2 hA hB)
 rw [World.size_alloc] at h
 exact h
set_option maxRecDepth 20000 in
theorem rLabelled_good (l:List Nat) (h:∀ x,x∈l→x<256) (hl:l.length≤65528) (v:Value) (n:Nat) (bs:Nat→Nat) (hbs:∀ j,bs j<256) (hn:n≤65528) (w:World) (hv:BytesIn w v n bs) :
 Calls Tryd.prog 42 #[.string (strL l),v] w fun e w'=>∃ s,e = .returned s∧Own w.heap.size w' s (v2L (8+l.length) n) (v2B (8+l.length) (litB (lMls ++ l)) n bs)∧Below w.heap.size w w':=by
 obtain ⟨xv,cv,rfl,-,-,-⟩:=hv.src
 obtain ⟨c,W,hc,hB,hb⟩:=conv_label w (lMls ++ l) (mls_lt h)
 rw [←strL_app,show (lMls ++ l).length=8+l.length by rw [List.length_append];rfl] at hc
 rw [show (lMls ++ l).length=8+l.length by rw [List.length_append];rfl] at hB
 replace hc:(convert 9 24 (.string ({ data:=#[77,76,83,32,49,46,48,32] } ++ strL l))).run Tryd.prog w = .ok (.slice (some ⟨w.heap.size,0,none⟩) (8+l.length) c) W:=hc
 have hj:=rJoin_two W (.slice (some ⟨w.heap.size,0,none⟩) (8+l.length) c) (.slice xv n cv) (8+l.length) n (litB (lMls ++ l)) bs hB (hv.keep hb) (litB_lt (mls_lt h)) hbs (by omega) (by omega)
 have b3:=hb.alloc hb.size (.cells #[.slice (some ⟨w.heap.size,0,none⟩) (8+l.length) c,.slice xv n cv] 24)
 obtain ⟨S,hS⟩:∃ S,S=strL l:=⟨_,rfl⟩
 have hsz:=strL_size l
 rw [←hS] at hc hsz ⊢
 have h63:¬9223372036854775807<8+S.size:=by rw [hsz];omega
 obtain ⟨T,hT⟩:∃ T,T=v2L (8+l.length) n:=⟨_,rfl⟩
 obtain ⟨F,hF⟩:∃ F,F=v2B (8+l.length) (litB (lMls ++ l)) n bs:=⟨_,rfl⟩
 rw [←hT,←hF] at hj ⊢
 obtain ⟨K,hK⟩:∃ K,K=(8+l.length):=⟨_,rfl⟩
 rw [←hK] at hj hc b3
 clear hS hT hF hK hB hv hl hn hsz
 go_enter Tryd.func42,Tryd.ntmps42
 go_wp2_with (first
  | rw [hc]
  | (go_at_call 20;refine hj.mono ?_;clear hj;rintro e w4 ⟨s4,rfl,own4,hb4⟩))
 go_ret
 exact ⟨s4,rfl,own4.lower (Nat.le_succ_of_le hb.size),below_next b3 (by rw [World.size_alloc];exact hb4)⟩
theorem own_two (base:Nat) (w:World) (x y:Nat) (h:base≤w.heap.size):Own base (w.alloc (.cells #[.int .u8 x,.int .u8 y] 5)) (.slice (some ⟨w.heap.size,0,none⟩) 2 2) 2 (litB [x,y]) :=
 World.ownsRow_lit w #[.int .u8 x,.int .u8 y] 2 h (by decide) rfl
theorem rExpand_good5 (l:List Nat) (h:∀ x,x∈l→x<256) (hl:l.length≤65528) (sv cv:Value) (sn n:Nat) (ks bs:Nat→Nat) (hks:∀ j,ks j<256) (hbs:∀ j,bs j<256) (hsn:sn<140737488355000) (hn:n≤65528) (N:Nat) (hN:N≤8160) (w:World) (h1:BytesIn w sv sn ks) (h2:BytesIn w cv n bs) :
 Calls Tryd.prog 22 #[sv,.string (strL l),cv,.int .i64 N] w fun e w'=>∃ s,e = .returned (.tuple #[s,.int .i64 0])∧BytesIn w' s N (exN sn ks l n bs N)∧Below w.heap.size w w':=by
 have hfi:=rfits_good l hl cv n bs hn w h2
 have hle:=exL_le l n hl hn
 obtain ⟨W0,hW0⟩:∃ W,W=w.alloc (.cells #[.int .u8 ((N / 256:Nat):Int),.int .u8 ((N%256:Nat):Int)] 5):=⟨_,rfl⟩
 have b0:Below w.heap.size w W0:=by rw [hW0];exact (Below.refl _ _).alloc (Nat.le_refl _) _
 have o0:Own w.heap.size W0 (.slice (some ⟨w.heap.size,0,none⟩) 2 2) 2 (litB [N / 256,N%256]):=by rw [hW0];exact own_two _ w _ _ (Nat.le_refl _)
 replace o0:Own w.heap.size W0 (.slice (some ⟨w.heap.size,0,none⟩) 2 2) 2 (beN N 2):=o0.congr fun j hj=>by
  rcases (show j=0∨j=1 by omega) with rfl | rfl
  · show N / 256=N / 2 ^ 8%256
    omega
  · show N%256=N / 2 ^ 0%256
    omega
 have hla:=rLabelled_good l h hl cv n bs hbs hn W0 (h2.keep b0)
 obtain ⟨T,hT1⟩:∃ T,T=v2L (8+l.length) n:=⟨_,rfl⟩
 obtain ⟨F,hF⟩:∃ F,F=v2B (8+l.length) (litB (lMls ++ l)) n bs:=⟨_,rfl⟩
 have hex:=fun (W:World) (y:Value) (hb:Below w.heap.size w W) (hy:BytesIn W y (exL l n) (exT l n bs N)) =>
  rExpand_any sv y sn (exL l n) ks (exT l n bs N) hks (exT_lt l h n bs hbs N) hsn (by omega) W (h1.keep hb) hy N hN
 have e1:exL l n=2+T:=by rw [hT1];rfl
 have e2:exT l n bs N=cat 2 (beN N 2) F:=by rw [hF];rfl
 have hE2:exN sn ks l n bs N=outF (keyB sn ks) (2+T) (cat 2 (beN N 2) F) N:=by rw [←e1,←e2];rfl
 rw [hE2]
 rw [e1,e2] at hex
 rw [e1] at hle
 obtain ⟨E,hE⟩:∃ E,E=outF (keyB sn ks) (2+T) (cat 2 (beN N 2) F) N:=⟨_,rfl⟩
 rw [←hE] at hex ⊢
 rw [←hT1,←hF] at hla
 obtain ⟨S,hS⟩:∃ S,S=strL l:=⟨_,rfl⟩
 rw [←hS] at hfi hla ⊢
 have hW:w.alloc (.cells #[.int .u8 ((N:Int) / 256),.int .u8 ((N:Int)%256)] 5)=W0:=by
  rw [hW0,show ((N / 256:Nat):Int)=(N:Int) / 256 by omega,show ((N%256:Nat):Int)=(N:Int)%256 by omega]
 rw [←hW] at hla
 have n1:¬(N:Int)<0:=by omega
 have n2:¬(8160:Int)<(N:Int):=by omega
 have HW:=Hid.mk' hW
 have B0:=Hid.mk' b0
 have O0:=Hid.mk' o0
 obtain ⟨G,hG⟩:∃ G,G=beN N 2:=⟨_,rfl⟩
 clear hS hT1 hF hE hE2 e1 e2 h1 h2 hW0 hW b0 o0
 go_enter Tryd.func22,Tryd.ntmps22
 go_wp2_with (first
  | (go_at_call 40;refine hfi.mono ?_;clear hfi;rintro e w1 ⟨rfl,hw1⟩;obtain rfl:=hw1.symm)
  | (go_at_call 42;refine hla.mono ?_;clear hla;rintro e w4 ⟨s4,rfl,own4,hb4⟩;(rw [HW.out] at hb4);(have o4:=O0.out.below hb4);(have b4:=below_next B0.out hb4);(have B4:=own4.bytesIn);(obtain ⟨x4,c4,hs4,hxn4,-,src4⟩:=B4.src);subst hs4;(have r4:=src4 w4 (Below.refl _ _)))
  | (at_builtin;refine wpList_append_bytes rfl (.tmp 28) (.tmp 31) rfl w.heap.size _ 2 (beN N 2) rfl o4 x4 T c4 F rfl r4 hxn4 (by omega) b4.size ?_;intro v5 w5 own5 hg5;have b5:=Own.grown b4 hg5 o4 (Nat.le_refl _) b4.size)
  | (go_at_call 41;refine (hex w5 v5 b5 own5.bytesIn).mono ?_;clear hex;rintro e w6 ⟨s6,rfl,B6,hb6⟩))
 go_ret2
 exact ⟨s6,rfl,B6,below_next b5 hb6⟩
end Go.Proofs.YtkoedfmdhdikaaaDoor
namespace Go.Proofs.YtkoedfmdhdikaaaDoor
open Go.RowKit
theorem padH_like5 {kv kv' t t':Nat→Nat} {p m:Nat} (hk:∀ j,kv j=kv' j) (ht:∀ j,j<m→t j=t' j):padH kv p m t=padH kv' p m t':=by
 unfold padH
 rw [specS_congr (cs:=cat 64 (fun j=>kv' j ^^^ p) t') fun j hj => ?_]
 unfold cat
 by_cases h:j<64
 · rw [if_pos h,if_pos h]
   show kv j ^^^ p=kv' j ^^^ p
   rw [hk]
 · rw [if_neg h,if_neg h,ht _ (by omega)]
theorem all_at5 {f g:Nat→Nat} {n:Nat} (h:((List.range n).all fun j=>f j == g j)=true) (j:Nat) (hj:j<n):f j=g j:=by
 have:=List.all_eq_true.1 h j (List.mem_range.2 hj)
 simpa using this
theorem tag_lit5 {kv t t':Nat→Nat} {m:Nat} {I O:Nat→Nat} (ht:∀ j,j<m→t j=t' j) (h1:((List.range 32).all fun j=>padH kv 54 m t' j == I j)=true) (h2:((List.range 32).all fun j=>padH kv 92 32 I j == O j)=true) (j:Nat) (hj:j<32):tagH kv m t j=O j:=by
 unfold tagH
 rw [padH_like5 (fun _=>rfl) (fun q hq=>(by rw [padH_like5 (fun _=>rfl) ht];exact all_at5 h1 q hq:padH kv 54 m t q=I q))]
 exact all_at5 h2 j hj
theorem strB_ne {n:Nat} {A B:Nat→Nat} (hA:∀ j,A j<256) (hB:∀ j,B j<256) (hn:0<n) (h:A 0≠B 0):¬strB n A=strB n B:=fun e=>h (by
 have e1:=congrArg (fun s=>s.data[0]?) e
 simp [strB,hn] at e1
 have e2:=congrArg UInt8.toNat e1
 simp [Nat.mod_eq_of_lt (hA 0),Nat.mod_eq_of_lt (hB 0)] at e2
 exact e2)
end Go.Proofs.YtkoedfmdhdikaaaDoor
namespace Go.Proofs.YtkoedfmdhdikaaaDoor
open Go.RowKit
theorem HTab.still5 {w w':World} {K q:Nat→Nat} (h:HTab w K q) (hb:Below w.heap.size w w'):HTab w' K q:=h.below hb h.size
structure TabAt (w:World):Prop where
 h:HTab w cubeK squareK
theorem TabAt.still {w w':World} (h:TabAt w) (hb:Below w.heap.size w w'):TabAt w':=⟨h.h.still5 hb⟩
structure LntAt (W:World) (g cap n:Nat) (bs:Nat→Nat):Prop where
 cap:n+2≤cap
 row:RowAt .u8 W g 0 (n+2) (cat n bs room)
theorem LntAt.still {W W':World} {g cap n:Nat} {bs:Nat→Nat} (h:LntAt W g cap n bs) (hb:Below W.heap.size W W'):LntAt W' g cap n bs:=⟨h.cap,h.row.below hb (block_lt_of_cell (h.row 0 (by omega)).1)⟩
theorem LntAt.bytes {W:World} {g cap n:Nat} {bs:Nat→Nat} (h:LntAt W g cap n bs):BytesIn W (.slice (some ⟨g,0,none⟩) n cap) n bs :=
 .inr ⟨g,0,cap,rfl,block_lt_of_cell (h.row 0 (by omega)).1,Nat.le_trans (Nat.le_add_right _ _) h.cap,fun j hj=>by
  have e:=(h.row j (by omega)).1
  rw [cat_left hj] at e
  exact e⟩
structure Cs (W:World) (v:Value) (S:ByteArray):Prop where
 conv:∀ w,Below W.heap.size W w→(convert 24 9 v).run Tryd.prog w = .ok (.string S) w
theorem Cs.still {W W':World} {v:Value} {S:ByteArray} (h:Cs W v S) (hb:Below W.heap.size W W'):Cs W' v S:=⟨fun w hw=>h.conv w (below_next hb hw)⟩
theorem BytesIn.cs {W:World} {v:Value} {n:Nat} {X:Nat→Nat} (h:BytesIn W v n X) (hX:∀ j,X j<256):Cs W v (strB n X):=⟨fun w hw=>h.conv hX w hw⟩
theorem outF_lt5 (kv:Nat→Nat) (m:Nat) (info:Nat→Nat) (a j:Nat):outF kv m info a j<256:=by
 unfold outF
 split
 · exact tE_lt _ _ _ _ _
 · decide
theorem exN_lt (sn:Nat) (ks:Nat→Nat) (l:List Nat) (n:Nat) (bs:Nat→Nat) (N j:Nat):exN sn ks l n bs N j<256:=outF_lt5 _ _ _ _ _
theorem lZ_lt5 (j:Nat):lZ j<256:=(by decide:0<256)
end Go.Proofs.YtkoedfmdhdikaaaDoor
