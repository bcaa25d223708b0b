/- The law SignSigns in the model. -/
import Derived.Test.YtdgkmloabificaaGreatDoorRMulM
namespace Go.Proofs.YtdgkmloabificaaGreatDoor
open Go.RowKit
set_option maxRecDepth 20000 in
set_option maxHeartbeats 4000000 in
theorem signSigns_any {G:World→Prop} {R:List Value→Fp × Fp→Prop} (cx:SgCtx G R) (v t:Value) (n m:Nat) (bs ts:Nat→Nat) (hbs:∀ j,bs j<256) (hts:∀ j,ts j<256) (hn0:n<140737488352000) (hm0:m<140737488352000) (w:World) (hv:BytesIn w v n bs) (ht:BytesIn w t m ts) (hG:G w) :
 Calls Tryz.prog 4 #[v,t] w fun e w'=>e = .returned (.bool true)∧Below w.heap.size w w':=by
 have hn:n<140737488355000:=by omega
 have hm:m<140737488355000:=by omega
 have hL:=lent_any v n bs w hv hn
 have hL2:=fun W ht=>lent_any t m ts W ht hm
 have hK:=fun W hG=>knows7 cx W hG
 have kk:=cx.api.keep
 have pair:∃ (S:ByteArray) (er:Int),(∀ x y W,BytesIn W x n bs→BytesIn W y m ts→G W→Calls Tryz.prog 12 #[x,y] W fun e w'=>∃ s,e = .returned (.tuple #[s,.int .i64 er])∧Str w' s S∧Below W.heap.size W w')∧(∀ x y W,BytesIn W x n bs→BytesIn W y m ts→Calls Tryz.prog 13 #[x,y] W fun e w'=>∃ s,e = .returned (.tuple #[s,.int .i64 er])∧Str w' s S∧Below W.heap.size W w'):=by
  by_cases h:n=32
  · subst h
    exact ⟨strB 64 (sigB bs m ts),0,fun x y W hx hy hG=>(sign_good cx x y m bs ts hbs hts (by omega) W hx hy hG).mono fun e w' ⟨g,k,he,hk,hr,hb⟩=>⟨_,he,Str.of (rowB hr (Nat.le_refl _) (by decide) hk) (sigB_lt _ _ _),hb⟩,fun x y W hx hy=>(rsign_good x y m bs ts hbs hts hm0 W hx hy).mono fun e w' ⟨s,he,hs,hb⟩=>⟨s,he,Str.of hs (sigB_lt _ _ _),hb⟩⟩
  · exact ⟨_,1,fun x y W hx _ _=>(sign_bad x y n bs W hx h).mono fun e w' ⟨he,hb⟩=>⟨_,he,Str.nil w',hb⟩,fun x y W hx _=>(rsign_bad x y n bs W hx h).mono fun e w' ⟨he,hw⟩=>⟨_,he,Str.nil w',by rw [hw];exact Below.refl _ _⟩⟩
 obtain ⟨S,er,p1,p2⟩:=pair
 have hse:(S.toList == S.toList)=true:=beq_self_eq_true _
 obtain ⟨xo,cx',hve,-,-,-⟩:=hv.src
 subst hve
 obtain ⟨xt,ct,hte,-,-,-⟩:=ht.src
 subst hte
 clear cx hn0 hm0
 go_enter Tryz.func4,Tryz.ntmps4
 go_wp2_with (first
  | (go_at_call 6;refine hL.mono ?_;clear hL;rintro e w1 ⟨g,cap,rfl,hcap,hg,hrow,b⟩;(have hL3:=hL2 w1 (ht.still b));clear hL2)
  | (go_at_call 6;refine hL3.mono ?_;clear hL3;rintro e w1b ⟨g',cap',rfl,hcap',hg',hrow',hb1⟩;(replace hrow:=hrow.below hb1 (block_lt_of_cell (hrow 0 (by omega)).1));(replace b:=below_next b hb1);clear hb1;(have c1:=p1 _ _ w1b (lent_bytes hrow hcap) (lent_bytes hrow' hcap') (kk _ _ hG b));clear p1)
  | (go_at_call 12;refine c1.mono ?_;clear c1;rintro e w2 ⟨s2,rfl,hs2,hb2⟩;(replace hrow:=hrow.below hb2 (block_lt_of_cell (hrow 0 (by omega)).1));(replace hrow':=hrow'.below hb2 (block_lt_of_cell (hrow' 0 (by omega)).1));(replace b:=below_next b hb2);clear hb2;(obtain ⟨⟨x2,m2,c2,rfl⟩,hcv2⟩:=hs2);(have c2:=p2 _ _ w2 (hv.still b) (ht.still b));clear p2)
  | (go_at_call 13;refine c2.mono ?_;clear c2;rintro e w3 ⟨s3,rfl,hs3,hb3⟩;(replace hrow:=hrow.below hb3 (block_lt_of_cell (hrow 0 (by omega)).1));(replace hrow':=hrow'.below hb3 (block_lt_of_cell (hrow' 0 (by omega)).1));(replace b:=below_next b hb3);(obtain ⟨⟨x3,m3,c3,rfl⟩,hcv3⟩:=hs3);(have q2:=hcv2 w3 hb3);(have q3:=hcv3 w3 (Below.refl _ _));clear hcv2 hcv3 hb3;(have cS:=stays_any g cap n (.slice xo n cx') bs hbs w3 hn hcap hrow (hv.still b));clear hrow)
  | (go_at_call 9;refine (num7_any _ _).mono ?_;rintro e wn ⟨rfl,hwn⟩;subst hwn)
  | (go_at_call 10;refine cS.mono ?_;clear cS;rintro e w4 ⟨rfl,hb4⟩;(replace hrow':=hrow'.below hb4 (block_lt_of_cell (hrow' 0 (by omega)).1));(replace b:=below_next b hb4);clear hb4;(have cS2:=stays_any g' cap' m (.slice xt m ct) ts hts w4 hm hcap' hrow' (ht.still b));clear hrow')
  | (go_at_call 10;refine cS2.mono ?_;clear cS2;rintro e w5 ⟨rfl,hb5⟩;(replace b:=below_next b hb5);(have cK:=hK w5 (kk _ _ hG b));clear hK hb5)
  | (go_at_call 11;refine cK.mono ?_;clear cK;rintro e w6 ⟨rfl,hb6⟩))
 go_ret
 exact ⟨rfl,below_next b hb6⟩
end Go.Proofs.YtdgkmloabificaaGreatDoor
