/- What the proof stands on: D1CD, D1CH, D1CI, D1CJ, D1KN. -/
import Derived.Test.YtibmlmmoifgliaaGreatDoorD1CBM
import Derived.Test.YtibmlmmoifgliaaGreatDoorD1CCM
import Derived.Test.YtibmlmmoifgliaaGreatDoorD1RLM
import Derived.Test.YtibmlmmoifgliaaGreatDoorV6CM
import Derived.Lib.SlBytesConst
import Derived.ScopeJumps
import Derived.WalkMore
namespace Go.Proofs.YtibmlmmoifgliaaGreatDoor
open Go.RowKit
theorem lenD_shift (L:Nat) (B:Nat→Nat) (a:Nat) (ha:a≤L):lenD L B ⟨a,0⟩=((lenD (L - a) (fun j=>B (a+j)) ⟨0,0⟩).1,⟨a+(lenD (L - a) (fun j=>B (a+j)) ⟨0,0⟩).2.at_,(lenD (L - a) (fun j=>B (a+j)) ⟨0,0⟩).2.e⟩):=by
 unfold lenD
 simp only [nbN_shift,Nat.add_zero,ne_eq,not_true_eq_false,if_false]
 by_cases h0:L=a
 · rw [if_pos h0,if_pos (by omega)];rfl
 rw [if_neg h0,if_neg (show ¬L - a=0 by omega)]
 by_cases h1:B a / 64=3
 · rw [if_pos h1,if_pos h1];rfl
 rw [if_neg h1,if_neg h1,Nat.sub_zero]
 by_cases h2:L - a<2 ^ (B a / 64)
 · rw [if_pos h2,if_pos h2];rfl
 rw [if_neg h2,if_neg h2]
 split
 · rfl
 · simp
theorem wp_scope_fwd {P:Program} {a:Act} {w:World} {Q:Exit→Act→World→Prop} {c rest:Code} (l:Nat) (hf:findLabel c l=some rest) (first:c.wp P (Exit.jump l (fun a w=>rest.wp P (Exit.noGoto Q) a w) Q) a w):(Code.scope c).wp P Q a w :=
 wp_scope_jumps l (fun a w=>rest.wp P (Exit.noGoto Q) a w) (fun _ _=>0) hf first fun a w h=>Code.wp_mono (fun e a w hq=>by
  cases e with
  | goto l=>exact absurd hq (fun h=>h)
  | _=>exact hq) h
theorem jump_ret {l:Nat} {J:Act→World→Prop} {Q:Exit→Act→World→Prop} {a:Act} {w:World}:Exit.jump l J Q .ret a w=Q .ret a w:=rfl
def ansL (p:Nat × Rd):Ending := .returned (.tuple #[.int .i64 ((p.1:Nat):Int),.int .i64 ((p.2.at_:Nat):Int),.int .i64 p.2.e])
set_option maxRecDepth 20000 in
set_option maxHeartbeats 4000000 in
theorem cLenAt_empty (v:Value) (B:Nat→Nat) (w:World) (hv:BytesIn w v 0 B):Calls Tryz.prog 75 #[v] w fun e w'=>e = .returned (.tuple #[.int .i64 0,.int .i64 0,.int .i64 20])∧w'=w:=by
 obtain ⟨xo,cx,rfl,-,-,-⟩:=hv.src
 clear hv
 go_enter Tryz.func75,Tryz.ntmps75
 go_wp2
 refine wp_scope_fwd 0 rfl ?_
 go_wp2
 go_step3
 refine ⟨rfl,?_⟩
 go_wp2
 rw [Exit.noGoto_ret]
 go_ret3
 exact ⟨rfl,rfl⟩
theorem at_first {w:World} {v:Value} {L:Nat} {B:Nat→Nat} (hv:BytesIn w v L B) (h0:0<L):∃ bb ob cap,v = .slice (some ⟨bb,ob,none⟩) L cap∧w.cell? ⟨bb,ob,none⟩=some (.int .u8 ((B 0:Nat):Int)):=by
 rcases hv with ⟨xo,-,h⟩ | ⟨bb,ob,cap,rfl,hbb,hc,hcell⟩
 · omega
 · exact ⟨bb,ob,cap,rfl,hcell 0 h0⟩
set_option maxRecDepth 20000 in
set_option maxHeartbeats 4000000 in
theorem cLenAt_three (v:Value) (L:Nat) (B:Nat→Nat) (w:World) (hv:BytesIn w v L B) (h0:0<L) (ht:B 0 / 64=3):Calls Tryz.prog 75 #[v] w fun e w'=>e = .returned (.tuple #[.int .i64 0,.int .i64 0,.int .i64 21])∧w'=w:=by
 obtain ⟨bb,ob,cap,rfl,f0⟩:=at_first hv h0
 obtain ⟨y,hy⟩:∃ y,y=B 0:=⟨_,rfl⟩
 rw [←hy] at ht f0
 have e1:(y:Int) / 64=3:=by omega
 have t0:¬(L:Int)=0:=by omega
 have t1:(0:Int)<(L:Int):=by omega
 clear hv ht hy
 go_enter Tryz.func75,Tryz.ntmps75
 go_wp2
 refine wp_scope_fwd 0 rfl ?_
 go_wp2
 go_step3
 refine ⟨rfl,?_⟩
 go_wp2
 rw [Exit.noGoto_ret]
 go_ret3
 exact ⟨rfl,rfl⟩
set_option maxRecDepth 20000 in
set_option maxHeartbeats 4000000 in
theorem cLenAt_end2 (v:Value) (L:Nat) (B:Nat→Nat) (w:World) (hv:BytesIn w v L B) (h0:0<L) (ht:B 0 / 64=1) (h2:L<2):Calls Tryz.prog 75 #[v] w fun e w'=>e = .returned (.tuple #[.int .i64 0,.int .i64 0,.int .i64 20])∧w'=w:=by
 obtain ⟨bb,ob,cap,rfl,f0⟩:=at_first hv h0
 obtain ⟨y,hy⟩:∃ y,y=B 0:=⟨_,rfl⟩
 rw [←hy] at ht f0
 have e1:(y:Int) / 64=1:=by omega
 have t0:¬(L:Int)=0:=by omega
 have t1:(0:Int)<(L:Int):=by omega
 have t3:(L:Int)<2:=by omega
 clear h2
 clear hv ht hy
 go_enter Tryz.func75,Tryz.ntmps75
 go_wp2
 refine wp_scope_fwd 0 rfl ?_
 go_wp2
 go_step3
 refine ⟨rfl,?_⟩
 go_wp2
 rw [Exit.noGoto_ret]
 go_ret3
 exact ⟨rfl,rfl⟩
set_option maxRecDepth 20000 in
set_option maxHeartbeats 4000000 in
theorem cLenAt_end4 (v:Value) (L:Nat) (B:Nat→Nat) (w:World) (hv:BytesIn w v L B) (h0:0<L) (ht:B 0 / 64=2) (h2:L<4):Calls Tryz.prog 75 #[v] w fun e w'=>e = .returned (.tuple #[.int .i64 0,.int .i64 0,.int .i64 20])∧w'=w:=by
 obtain ⟨bb,ob,cap,rfl,f0⟩:=at_first hv h0
 obtain ⟨y,hy⟩:∃ y,y=B 0:=⟨_,rfl⟩
 rw [←hy] at ht f0
 have e1:(y:Int) / 64=2:=by omega
 have t0:¬(L:Int)=0:=by omega
 have t1:(0:Int)<(L:Int):=by omega
 have t3:(L:Int)<4:=by omega
 clear h2
 clear hv ht hy
 go_enter Tryz.func75,Tryz.ntmps75
 go_wp2
 refine wp_scope_fwd 0 rfl ?_
 go_wp2
 go_step3
 refine ⟨rfl,?_⟩
 go_wp2
 rw [Exit.noGoto_ret]
 go_ret3
 exact ⟨rfl,rfl⟩
set_option maxRecDepth 20000 in
set_option maxHeartbeats 4000000 in
theorem cLenAt_good1 (v:Value) (L:Nat) (B:Nat→Nat) (lB:∀ j,B j<256) (w:World) (hv:BytesIn w v L B) (h0:0<L) (ht:B 0 / 64=0) (h2:1≤L) (h3:knI ((nbN B 0 1%64:Nat):Int)=0):Calls Tryz.prog 75 #[v] w fun e w'=>e = .returned (.tuple #[.int .i64 ((nbN B 0 1%64:Nat):Int),.int .i64 1,.int .i64 0])∧w'=w:=by
 obtain ⟨bb,ob,cap,rfl,f0⟩:=at_first hv h0
 obtain ⟨xo,cx,x1,c1,-,-,e0,-,hsl,hv1,-,-⟩:=(BI.all hv).cut 1 (by omega)
 cases e0
 replace hsl:∀ W:World,(Instr.sliceAt 22 (.slice (some ⟨bb,ob,none⟩) L cap) none (some (.int .i64 1)) none).run Tryz.prog W = .ok (.slice x1 1 c1) W:=hsl
 have cj:=cJoin_any _ 1 B lB (by decide) w (hv1.of (Nat.le_refl _))
 have cb:Calls Tryz.prog 105 #[.int .i64 0] w fun e w'=>e = .returned (.int .i64 6)∧w'=w:=cBits_any 0 (by decide) w
 have hN:nbN B 0 1 / 64=0:=by
  rw [nbN_one]
  try simp only [Nat.zero_add]
  have:=lB 0
  have:=lB 1
  have:=lB 2
  have:=lB 3
  omega
 obtain ⟨m,hm⟩:∃ m:Int,m=((nbN B 0 1%64:Nat):Int):=⟨_,rfl⟩
 have ck:=cKind_any m w
 rw [←hm] at h3 ⊢
 obtain ⟨z,hz⟩:∃ z:Int,z=((nbN B 0 1:Nat):Int):=⟨_,rfl⟩
 rw [←hz] at cj
 have e8:wrap64 (wrap64 z)=m:=by unfold wrap64;omega
 replace ck:Calls Tryz.prog 106 #[.int .i64 m] w fun e w'=>e = .returned (.int .i64 0)∧w'=w:=by rw [h3] at ck;exact ck
 obtain ⟨y,hy⟩:∃ y,y=B 0:=⟨_,rfl⟩
 rw [←hy] at ht f0
 have e1:(y:Int) / 64=0:=by omega
 have t0:¬(L:Int)=0:=by omega
 have t1:(0:Int)<(L:Int):=by omega
 have t3:¬(L:Int)<1:=by omega
 clear hv ht hy h2 hN hm hz hv1 h3
 go_enter Tryz.func75,Tryz.ntmps75
 go_wp2
 refine wp_scope_fwd 0 rfl ?_
 go_wp2_with (first
  | (go_at_call 72;refine cj.mono ?_;clear cj;rintro e w1 ⟨rfl,hw⟩;obtain rfl:=hw.symm)
  | (go_at_call 105;refine cb.mono ?_;clear cb;rintro e w1 ⟨rfl,hw⟩;obtain rfl:=hw.symm)
  | (go_at_call 106;(try rw [e8]);with_reducible refine ck.mono ?_;clear ck;rintro e w1 ⟨rfl,hw⟩;obtain rfl:=hw.symm))
 rw [jump_ret]
 go_ret3
 exact ⟨rfl,rfl⟩
set_option maxRecDepth 20000 in
set_option maxHeartbeats 4000000 in
theorem cLenAt_good2 (v:Value) (L:Nat) (B:Nat→Nat) (lB:∀ j,B j<256) (w:World) (hv:BytesIn w v L B) (h0:0<L) (ht:B 0 / 64=1) (h2:2≤L) (h3:knI ((nbN B 0 2%16384:Nat):Int)=1):Calls Tryz.prog 75 #[v] w fun e w'=>e = .returned (.tuple #[.int .i64 ((nbN B 0 2%16384:Nat):Int),.int .i64 2,.int .i64 0])∧w'=w:=by
 obtain ⟨bb,ob,cap,rfl,f0⟩:=at_first hv h0
 obtain ⟨xo,cx,x1,c1,-,-,e0,-,hsl,hv1,-,-⟩:=(BI.all hv).cut 2 (by omega)
 cases e0
 replace hsl:∀ W:World,(Instr.sliceAt 22 (.slice (some ⟨bb,ob,none⟩) L cap) none (some (.int .i64 2)) none).run Tryz.prog W = .ok (.slice x1 2 c1) W:=hsl
 have cj:=cJoin_any _ 2 B lB (by decide) w (hv1.of (Nat.le_refl _))
 have cb:Calls Tryz.prog 105 #[.int .i64 1] w fun e w'=>e = .returned (.int .i64 14)∧w'=w:=cBits_any 1 (by decide) w
 have hN:nbN B 0 2 / 16384=1:=by
  rw [nbN_two]
  try simp only [Nat.zero_add]
  have:=lB 0
  have:=lB 1
  have:=lB 2
  have:=lB 3
  omega
 obtain ⟨m,hm⟩:∃ m:Int,m=((nbN B 0 2%16384:Nat):Int):=⟨_,rfl⟩
 have ck:=cKind_any m w
 rw [←hm] at h3 ⊢
 obtain ⟨z,hz⟩:∃ z:Int,z=((nbN B 0 2:Nat):Int):=⟨_,rfl⟩
 rw [←hz] at cj
 have e8:wrap64 (wrap64 z - 16384)=m:=by unfold wrap64;omega
 replace ck:Calls Tryz.prog 106 #[.int .i64 m] w fun e w'=>e = .returned (.int .i64 1)∧w'=w:=by rw [h3] at ck;exact ck
 obtain ⟨y,hy⟩:∃ y,y=B 0:=⟨_,rfl⟩
 rw [←hy] at ht f0
 have e1:(y:Int) / 64=1:=by omega
 have t0:¬(L:Int)=0:=by omega
 have t1:(0:Int)<(L:Int):=by omega
 have t3:¬(L:Int)<2:=by omega
 clear hv ht hy h2 hN hm hz hv1 h3
 go_enter Tryz.func75,Tryz.ntmps75
 go_wp2
 refine wp_scope_fwd 0 rfl ?_
 go_wp2_with (first
  | (go_at_call 72;refine cj.mono ?_;clear cj;rintro e w1 ⟨rfl,hw⟩;obtain rfl:=hw.symm)
  | (go_at_call 105;refine cb.mono ?_;clear cb;rintro e w1 ⟨rfl,hw⟩;obtain rfl:=hw.symm)
  | (go_at_call 106;(try rw [e8]);with_reducible refine ck.mono ?_;clear ck;rintro e w1 ⟨rfl,hw⟩;obtain rfl:=hw.symm))
 rw [jump_ret]
 go_ret3
 exact ⟨rfl,rfl⟩
set_option maxRecDepth 20000 in
set_option maxHeartbeats 4000000 in
theorem cLenAt_good4 (v:Value) (L:Nat) (B:Nat→Nat) (lB:∀ j,B j<256) (w:World) (hv:BytesIn w v L B) (h0:0<L) (ht:B 0 / 64=2) (h2:4≤L) (h3:knI ((nbN B 0 4%1073741824:Nat):Int)=2):Calls Tryz.prog 75 #[v] w fun e w'=>e = .returned (.tuple #[.int .i64 ((nbN B 0 4%1073741824:Nat):Int),.int .i64 4,.int .i64 0])∧w'=w:=by
 obtain ⟨bb,ob,cap,rfl,f0⟩:=at_first hv h0
 obtain ⟨xo,cx,x1,c1,-,-,e0,-,hsl,hv1,-,-⟩:=(BI.all hv).cut 4 (by omega)
 cases e0
 replace hsl:∀ W:World,(Instr.sliceAt 22 (.slice (some ⟨bb,ob,none⟩) L cap) none (some (.int .i64 4)) none).run Tryz.prog W = .ok (.slice x1 4 c1) W:=hsl
 have cj:=cJoin_any _ 4 B lB (by decide) w (hv1.of (Nat.le_refl _))
 have cb:Calls Tryz.prog 105 #[.int .i64 2] w fun e w'=>e = .returned (.int .i64 30)∧w'=w:=cBits_any 2 (by decide) w
 have hN:nbN B 0 4 / 1073741824=2:=by
  rw [nbN_four]
  try simp only [Nat.zero_add]
  have:=lB 0
  have:=lB 1
  have:=lB 2
  have:=lB 3
  omega
 obtain ⟨m,hm⟩:∃ m:Int,m=((nbN B 0 4%1073741824:Nat):Int):=⟨_,rfl⟩
 have ck:=cKind_any m w
 rw [←hm] at h3 ⊢
 obtain ⟨z,hz⟩:∃ z:Int,z=((nbN B 0 4:Nat):Int):=⟨_,rfl⟩
 rw [←hz] at cj
 have e8:wrap64 (wrap64 z - 2147483648)=m:=by unfold wrap64;omega
 replace ck:Calls Tryz.prog 106 #[.int .i64 m] w fun e w'=>e = .returned (.int .i64 2)∧w'=w:=by rw [h3] at ck;exact ck
 obtain ⟨y,hy⟩:∃ y,y=B 0:=⟨_,rfl⟩
 rw [←hy] at ht f0
 have e1:(y:Int) / 64=2:=by omega
 have t0:¬(L:Int)=0:=by omega
 have t1:(0:Int)<(L:Int):=by omega
 have t3:¬(L:Int)<4:=by omega
 clear hv ht hy h2 hN hm hz hv1 h3
 go_enter Tryz.func75,Tryz.ntmps75
 go_wp2
 refine wp_scope_fwd 0 rfl ?_
 go_wp2_with (first
  | (go_at_call 72;refine cj.mono ?_;clear cj;rintro e w1 ⟨rfl,hw⟩;obtain rfl:=hw.symm)
  | (go_at_call 105;refine cb.mono ?_;clear cb;rintro e w1 ⟨rfl,hw⟩;obtain rfl:=hw.symm)
  | (go_at_call 106;(try rw [e8]);with_reducible refine ck.mono ?_;clear ck;rintro e w1 ⟨rfl,hw⟩;obtain rfl:=hw.symm))
 rw [jump_ret]
 go_ret3
 exact ⟨rfl,rfl⟩
set_option maxRecDepth 20000 in
set_option maxHeartbeats 4000000 in
theorem cLenAt_form2 (v:Value) (L:Nat) (B:Nat→Nat) (lB:∀ j,B j<256) (w:World) (hv:BytesIn w v L B) (h0:0<L) (ht:B 0 / 64=1) (h2:2≤L) (h3:¬knI ((nbN B 0 2%16384:Nat):Int)=1):Calls Tryz.prog 75 #[v] w fun e w'=>e = .returned (.tuple #[.int .i64 0,.int .i64 0,.int .i64 21])∧w'=w:=by
 obtain ⟨bb,ob,cap,rfl,f0⟩:=at_first hv h0
 obtain ⟨xo,cx,x1,c1,-,-,e0,-,hsl,hv1,-,-⟩:=(BI.all hv).cut 2 (by omega)
 cases e0
 replace hsl:∀ W:World,(Instr.sliceAt 22 (.slice (some ⟨bb,ob,none⟩) L cap) none (some (.int .i64 2)) none).run Tryz.prog W = .ok (.slice x1 2 c1) W:=hsl
 have cj:=cJoin_any _ 2 B lB (by decide) w (hv1.of (Nat.le_refl _))
 have cb:Calls Tryz.prog 105 #[.int .i64 1] w fun e w'=>e = .returned (.int .i64 14)∧w'=w:=cBits_any 1 (by decide) w
 have hN:nbN B 0 2 / 16384=1:=by
  rw [nbN_two]
  try simp only [Nat.zero_add]
  have:=lB 0
  have:=lB 1
  have:=lB 2
  have:=lB 3
  omega
 obtain ⟨m,hm⟩:∃ m:Int,m=((nbN B 0 2%16384:Nat):Int):=⟨_,rfl⟩
 have ck:=cKind_any m w
 rw [←hm] at h3
 obtain ⟨z,hz⟩:∃ z:Int,z=((nbN B 0 2:Nat):Int):=⟨_,rfl⟩
 rw [←hz] at cj
 have e8:wrap64 (wrap64 z - 16384)=m:=by unfold wrap64;omega
 obtain ⟨q,hq⟩:∃ q:Int,q=((knI m:Nat):Int):=⟨_,rfl⟩
 rw [←hq] at ck
 have t7:¬q=1:=by omega
 clear hq
 obtain ⟨y,hy⟩:∃ y,y=B 0:=⟨_,rfl⟩
 rw [←hy] at ht f0
 have e1:(y:Int) / 64=1:=by omega
 have t0:¬(L:Int)=0:=by omega
 have t1:(0:Int)<(L:Int):=by omega
 have t3:¬(L:Int)<2:=by omega
 clear hv ht hy h2 hN hm hz hv1 h3
 go_enter Tryz.func75,Tryz.ntmps75
 go_wp2
 refine wp_scope_fwd 0 rfl ?_
 go_wp2_with (first
  | (go_at_call 72;refine cj.mono ?_;clear cj;rintro e w1 ⟨rfl,hw⟩;obtain rfl:=hw.symm)
  | (go_at_call 105;refine cb.mono ?_;clear cb;rintro e w1 ⟨rfl,hw⟩;obtain rfl:=hw.symm)
  | (go_at_call 106;(try rw [e8]);with_reducible refine ck.mono ?_;clear ck;rintro e w1 ⟨rfl,hw⟩;obtain rfl:=hw.symm))
 go_step3
 refine ⟨rfl,?_⟩
 go_wp2
 rw [Exit.noGoto_ret]
 go_ret3
 exact ⟨rfl,rfl⟩
set_option maxRecDepth 20000 in
set_option maxHeartbeats 4000000 in
theorem cLenAt_form4 (v:Value) (L:Nat) (B:Nat→Nat) (lB:∀ j,B j<256) (w:World) (hv:BytesIn w v L B) (h0:0<L) (ht:B 0 / 64=2) (h2:4≤L) (h3:¬knI ((nbN B 0 4%1073741824:Nat):Int)=2):Calls Tryz.prog 75 #[v] w fun e w'=>e = .returned (.tuple #[.int .i64 0,.int .i64 0,.int .i64 21])∧w'=w:=by
 obtain ⟨bb,ob,cap,rfl,f0⟩:=at_first hv h0
 obtain ⟨xo,cx,x1,c1,-,-,e0,-,hsl,hv1,-,-⟩:=(BI.all hv).cut 4 (by omega)
 cases e0
 replace hsl:∀ W:World,(Instr.sliceAt 22 (.slice (some ⟨bb,ob,none⟩) L cap) none (some (.int .i64 4)) none).run Tryz.prog W = .ok (.slice x1 4 c1) W:=hsl
 have cj:=cJoin_any _ 4 B lB (by decide) w (hv1.of (Nat.le_refl _))
 have cb:Calls Tryz.prog 105 #[.int .i64 2] w fun e w'=>e = .returned (.int .i64 30)∧w'=w:=cBits_any 2 (by decide) w
 have hN:nbN B 0 4 / 1073741824=2:=by
  rw [nbN_four]
  try simp only [Nat.zero_add]
  have:=lB 0
  have:=lB 1
  have:=lB 2
  have:=lB 3
  omega
 obtain ⟨m,hm⟩:∃ m:Int,m=((nbN B 0 4%1073741824:Nat):Int):=⟨_,rfl⟩
 have ck:=cKind_any m w
 rw [←hm] at h3
 obtain ⟨z,hz⟩:∃ z:Int,z=((nbN B 0 4:Nat):Int):=⟨_,rfl⟩
 rw [←hz] at cj
 have e8:wrap64 (wrap64 z - 2147483648)=m:=by unfold wrap64;omega
 obtain ⟨q,hq⟩:∃ q:Int,q=((knI m:Nat):Int):=⟨_,rfl⟩
 rw [←hq] at ck
 have t7:¬q=2:=by omega
 clear hq
 obtain ⟨y,hy⟩:∃ y,y=B 0:=⟨_,rfl⟩
 rw [←hy] at ht f0
 have e1:(y:Int) / 64=2:=by omega
 have t0:¬(L:Int)=0:=by omega
 have t1:(0:Int)<(L:Int):=by omega
 have t3:¬(L:Int)<4:=by omega
 clear hv ht hy h2 hN hm hz hv1 h3
 go_enter Tryz.func75,Tryz.ntmps75
 go_wp2
 refine wp_scope_fwd 0 rfl ?_
 go_wp2_with (first
  | (go_at_call 72;refine cj.mono ?_;clear cj;rintro e w1 ⟨rfl,hw⟩;obtain rfl:=hw.symm)
  | (go_at_call 105;refine cb.mono ?_;clear cb;rintro e w1 ⟨rfl,hw⟩;obtain rfl:=hw.symm)
  | (go_at_call 106;(try rw [e8]);with_reducible refine ck.mono ?_;clear ck;rintro e w1 ⟨rfl,hw⟩;obtain rfl:=hw.symm))
 go_step3
 refine ⟨rfl,?_⟩
 go_wp2
 rw [Exit.noGoto_ret]
 go_ret3
 exact ⟨rfl,rfl⟩
theorem knI_eq (m k:Nat) (_hk:k<3):knI (m:Int)=k↔(if m<64 then 0 else if m<16384 then 1 else if m<1073741824 then 2 else 3)=k:=by
 unfold knI
 have e0:(m:Int) / 2 ^ 6=0↔m<64:=by show (m:Int) / 64=0↔_;omega
 have e1:(m:Int) / 2 ^ 14=0↔m<16384:=by show (m:Int) / 16384=0↔_;omega
 have e2:(m:Int) / 2 ^ 30=0↔m<1073741824:=by show (m:Int) / 1073741824=0↔_;omega
 simp only [e0,e1,e2]
theorem cLenAt_any (v:Value) (L:Nat) (B:Nat→Nat) (lB:∀ j,B j<256) (w:World) (hv:BytesIn w v L B):Calls Tryz.prog 75 #[v] w fun e w'=>e=ansL (lenD L B ⟨0,0⟩)∧w'=w:=by
 unfold lenD ansL
 rw [if_neg (fun h=>h rfl)]
 have hy:=lB 0
 by_cases h0:L=0
 · subst h0
   rw [if_pos rfl]
   exact cLenAt_empty v B w hv
 rw [if_neg h0]
 by_cases h3:B 0 / 64=3
 · rw [if_pos h3]
   exact cLenAt_three v L B w hv (by omega) h3
 rw [if_neg h3]
 simp only [Nat.sub_zero,Nat.zero_add]
 rcases (show B 0 / 64=0∨B 0 / 64=1∨B 0 / 64=2 by omega) with ht | ht | ht
 · rw [ht,show (2:Nat) ^ 0=1 from rfl,if_neg (by omega),if_neg (by omega)]
   exact cLenAt_good1 v L B lB w hv (by omega) ht (by omega) ((knI_eq _ 0 (by decide)).2 (if_pos (Nat.mod_lt _ (by decide))))
 · rw [ht,show (2:Nat) ^ 1=2 from rfl,show (2:Nat) ^ (8*2 - 2)=16384 from rfl]
   by_cases h2:L<2
   · rw [if_pos h2]
     exact cLenAt_end2 v L B w hv (by omega) ht h2
   rw [if_neg h2]
   have hm:=Nat.mod_lt (nbN B 0 2) (show 16384 > 0 by decide)
   by_cases h4:nbN B 0 2%16384<64
   · rw [if_pos (.inl ⟨rfl,h4⟩)]
     exact cLenAt_form2 v L B lB w hv (by omega) ht (by omega) (fun e=>by
      rw [knI_eq _ 1 (by decide),if_pos h4] at e
      exact absurd e (by decide))
   rw [if_neg (fun e=>e.elim (fun e=>h4 e.2) (fun e=>absurd e.1 (by decide)))]
   exact cLenAt_good2 v L B lB w hv (by omega) ht (by omega) ((knI_eq _ 1 (by decide)).2 (by rw [if_neg h4,if_pos hm]))
 · rw [ht,show (2:Nat) ^ 2=4 from rfl,show (2:Nat) ^ (8*4 - 2)=1073741824 from rfl]
   by_cases h2:L<4
   · rw [if_pos h2]
     exact cLenAt_end4 v L B w hv (by omega) ht h2
   rw [if_neg h2]
   have hm:=Nat.mod_lt (nbN B 0 4) (show 1073741824 > 0 by decide)
   by_cases h4:nbN B 0 4%1073741824<16384
   · rw [if_pos (.inr ⟨rfl,h4⟩)]
     exact cLenAt_form4 v L B lB w hv (by omega) ht (by omega) (fun e=>by
      rw [knI_eq _ 2 (by decide),if_pos h4] at e
      by_cases h5:nbN B 0 4%1073741824<64
      · rw [if_pos h5] at e;exact absurd e (by decide)
      · rw [if_neg h5] at e;exact absurd e (by decide))
   rw [if_neg (fun e=>e.elim (fun e=>absurd e.1 (by decide)) (fun e=>h4 e.2))]
   exact cLenAt_good4 v L B lB w hv (by omega) ht (by omega) ((knI_eq _ 2 (by decide)).2 (by rw [if_neg (show ¬nbN B 0 4%1073741824<64 by omega),if_neg h4,if_pos hm]))
end Go.Proofs.YtibmlmmoifgliaaGreatDoor
namespace Go.Proofs.YtibmlmmoifgliaaGreatDoor
open Go.RowKit
theorem BI.at0 {lo hi:Nat} {w:World} {v:Value} {n:Nat} {B:Nat→Nat} (h:BI lo hi w v n B) {g:Nat} {u:Value} (hc:w.cell? ⟨g,0,none⟩=some u) {m:Nat} {C:Nat→Nat} (hu:BI lo hi w u m C) (y:Value):BI lo hi (w.setCell ⟨g,0,none⟩ y) v n B:=by
 refine h.put hc (fun z e => ?_) y
 rcases hu with ⟨xo,rfl,_⟩ | ⟨bb,ob,cap,rfl,_⟩
 · cases e
 · cases e
set_option maxRecDepth 20000 in
set_option maxHeartbeats 2000000 in
theorem cPass_any (lo hi g L:Nat) (B:Nat→Nat) (r:Rd) (n:Nat) (hn:r.at_+n≤L) (w:World) (h:RdC lo hi w g L B r):Calls Tryz.prog 74 #[.pointer (some ⟨g,0,none⟩),.int .i64 (n:Int)] w fun e w'=>∃ v,e = .returned v∧BI lo hi w' v n (fun j=>B (r.at_+j))∧RdC lo hi w' g L B ⟨r.at_+n,r.e⟩∧Out g 0 2 w w':=by
 obtain ⟨v,⟨c0,z0⟩,-,-,hv⟩:=h.cells
 obtain ⟨xo,cx,x1,c1,x2,c2,rfl,-,hs1,hv1,hs2,hv2⟩:=hv.cut n (by omega)
 have e1:L - r.at_ - n=L - (r.at_+n):=by omega
 rw [e1] at hs2 hv2
 have hv2':BI lo hi w (.slice x2 (L - (r.at_+n)) c2) (L - (r.at_+n)) (fun j=>B (r.at_+n+j)):=hv2.cong fun j _=>by
  show B (r.at_+(n+j))=_
  rw [Nat.add_assoc]
 have H2:=Hid.mk' (h.setR (r.at_+n) hn x2 c2 hv2')
 have H1:=Hid.mk' (hv1.at0 c0 hv (.slice x2 (L - (r.at_+n)) c2))
 obtain ⟨q,hq⟩:∃ q,q=L - (r.at_+n):=⟨_,rfl⟩
 rw [←hq] at hs2 H1 H2
 obtain ⟨p,hp⟩:∃ p,p=L - r.at_:=⟨_,rfl⟩
 rw [←hp] at hs1 hs2 c0
 clear h hv hv1 hv2 hv2' e1 hp hq
 go_enter Tryz.func74,Tryz.ntmps74
 go_wp2
 go_ret
 exact ⟨_,rfl,H1.out,H2.out,Out.setCell _ _ (by decide) (by decide)⟩
set_option maxRecDepth 20000 in
set_option maxHeartbeats 2000000 in
theorem cNumR_err (lo hi g L:Nat) (B:Nat→Nat) (r:Rd) (s:Int) (he:r.e≠0) (w:World) (h:RdC lo hi w g L B r):Calls Tryz.prog 40 #[.pointer (some ⟨g,0,none⟩),.int .i64 s] w fun e w'=>e = .returned (.int .i64 0)∧w'=w:=by
 have c:=cReads_any lo hi g L B r w h
 rw [decide_eq_false he] at c
 clear h
 go_enter Tryz.func40,Tryz.ntmps40
 go_wp2
 refine wp_scope_fwd 0 rfl ?_
 go_wp2_with (go_at_call 70;refine c.mono ?_;clear c;rintro e w1 ⟨rfl,hw⟩;obtain rfl:=hw.symm)
 rw [jump_ret]
 go_ret
 exact ⟨rfl,rfl⟩
set_option maxRecDepth 20000 in
set_option maxHeartbeats 2000000 in
theorem cNumR_arg (lo hi g L:Nat) (B:Nat→Nat) (r:Rd) (s:Int) (he:r.e=0) (hs:szB s=false) (w:World) (h:RdC lo hi w g L B r):Calls Tryz.prog 40 #[.pointer (some ⟨g,0,none⟩),.int .i64 s] w fun e w'=>e = .returned (.int .i64 0)∧RdC lo hi w' g L B ⟨r.at_,1⟩∧Out g 0 2 w w':=by
 have c:=cReads_any lo hi g L B r w h
 rw [decide_eq_true he] at c
 have cs:=cSize_any s w
 rw [hs] at cs
 obtain ⟨v,-,⟨c1,z1⟩,-,-⟩:=h.cells
 have Hh:=Hid.mk' h
 clear h hs
 rw [he] at c1
 go_enter Tryz.func40,Tryz.ntmps40
 go_wp2
 refine wp_scope_fwd 0 rfl ?_
 go_wp2_with (first
  | (go_at_call 70;refine c.mono ?_;clear c;rintro e w1 ⟨rfl,hw⟩;obtain rfl:=hw.symm)
  | (go_at_call 71;refine cs.mono ?_;clear cs;rintro e w1 ⟨rfl,hw⟩;obtain rfl:=hw.symm))
 go_step3
 refine ⟨rfl,?_⟩
 go_wp2
 rw [Exit.noGoto_ret]
 go_ret
 exact ⟨rfl,Hh.out.setE 1,Out.setCell _ _ (by decide) (by decide)⟩
set_option maxRecDepth 20000 in
set_option maxHeartbeats 2000000 in
theorem cNumR_end (lo hi g L:Nat) (B:Nat→Nat) (r:Rd) (s:Nat) (he:r.e=0) (hs:szB s=true) (hq:L<r.at_+s) (w:World) (h:RdC lo hi w g L B r):Calls Tryz.prog 40 #[.pointer (some ⟨g,0,none⟩),.int .i64 s] w fun e w'=>e = .returned (.int .i64 0)∧RdC lo hi w' g L B ⟨r.at_,20⟩∧Out g 0 2 w w':=by
 have c:=cReads_any lo hi g L B r w h
 rw [decide_eq_true he] at c
 have cs:=cSize_any s w
 rw [hs] at cs
 obtain ⟨v,⟨c0,-⟩,⟨c1,z1⟩,-,hv⟩:=h.cells
 obtain ⟨xo,cx,-,-,-,-,rfl,-,-,-,-,-⟩:=hv.cut 0 (Nat.zero_le _)
 have Hh:=Hid.mk' h
 obtain ⟨p,hp⟩:∃ p,p=L - r.at_:=⟨_,rfl⟩
 rw [←hp] at c0
 have ha:=h.le
 have t1:(p:Int)<(s:Int):=by omega
 clear h hs hp hq hv ha
 rw [he] at c1
 go_enter Tryz.func40,Tryz.ntmps40
 go_wp2
 refine wp_scope_fwd 0 rfl ?_
 go_wp2_with (first
  | (go_at_call 70;refine c.mono ?_;clear c;rintro e w1 ⟨rfl,hw⟩;obtain rfl:=hw.symm)
  | (go_at_call 71;refine cs.mono ?_;clear cs;rintro e w1 ⟨rfl,hw⟩;obtain rfl:=hw.symm))
 go_step3
 refine ⟨rfl,?_⟩
 go_wp2
 rw [Exit.noGoto_ret]
 go_ret
 exact ⟨rfl,Hh.out.setE 20,Out.setCell _ _ (by decide) (by decide)⟩
set_option maxRecDepth 20000 in
set_option maxHeartbeats 4000000 in
theorem cNumR_range (lo hi g L:Nat) (B:Nat→Nat) (lB:∀ j,B j<256) (r:Rd) (s:Nat) (he:r.e=0) (hs:szB s=true) (hq:r.at_+s≤L) (hN:mstN s≤nbN B r.at_ s) (w:World) (h:RdC lo hi w g L B r):Calls Tryz.prog 40 #[.pointer (some ⟨g,0,none⟩),.int .i64 s] w fun e w'=>e = .returned (.int .i64 0)∧RdC lo hi w' g L B ⟨r.at_,11⟩∧Out g 0 2 w w':=by
 have c:=cReads_any lo hi g L B r w h
 rw [decide_eq_true he] at c
 have cs:=cSize_any s w
 rw [hs] at cs
 have hs':=szB_cases hs
 have cm:=cMost_any s (by omega) w
 obtain ⟨v,⟨c0,-⟩,⟨c1,z1⟩,-,hv⟩:=h.cells
 obtain ⟨xo,cx,x1,d1,-,-,rfl,-,hsl,hv1,-,-⟩:=hv.cut s (by omega)
 have hh:hi≤w.heap.size:=h.choose_spec.2.2.2.2
 have cj:=cJoin_any _ s _ (fun j=>lB (r.at_+j)) (by omega) w (hv1.of hh)
 rw [nbN_shift] at cj
 have Hh:=Hid.mk' h
 obtain ⟨p,hp⟩:∃ p,p=L - r.at_:=⟨_,rfl⟩
 rw [←hp] at c0 hsl
 have t1:¬(p:Int)<(s:Int):=by omega
 have hml:=mstN_lt s (by omega)
 have hmp:0<mstN s:=by
  unfold mstN
  split
  · decide
  · exact Nat.two_pow_pos _
 obtain ⟨z,hz⟩:∃ z:Int,z=((nbN B r.at_ s:Nat):Int):=⟨_,rfl⟩
 rw [←hz] at cj
 obtain ⟨y,hy⟩:∃ y:Int,y=((mstN s - 1:Nat):Int):=⟨_,rfl⟩
 rw [←hy] at cm
 have e9:IntKind.u64.wrap y=y:=by show y%18446744073709551616=y;omega
 have t2:y<z:=by omega
 clear h hs hp hq hv hv1 hs' hml hmp hz hy hN
 rw [he] at c1
 go_enter Tryz.func40,Tryz.ntmps40
 go_wp2
 refine wp_scope_fwd 0 rfl ?_
 go_wp2_with (first
  | (go_at_call 70;refine c.mono ?_;clear c;rintro e w1 ⟨rfl,hw⟩;obtain rfl:=hw.symm)
  | (go_at_call 71;refine cs.mono ?_;clear cs;rintro e w1 ⟨rfl,hw⟩;obtain rfl:=hw.symm)
  | (go_at_call 72;refine cj.mono ?_;clear cj;rintro e w1 ⟨rfl,hw⟩;obtain rfl:=hw.symm)
  | (go_at_call 73;refine cm.mono ?_;clear cm;rintro e w1 ⟨rfl,hw⟩;obtain rfl:=hw.symm))
 go_step3
 refine ⟨rfl,?_⟩
 go_wp2
 rw [Exit.noGoto_ret]
 go_ret
 exact ⟨rfl,Hh.out.setE 11,Out.setCell _ _ (by decide) (by decide)⟩
set_option maxRecDepth 20000 in
set_option maxHeartbeats 4000000 in
theorem cNumR_good (lo hi g L:Nat) (B:Nat→Nat) (lB:∀ j,B j<256) (r:Rd) (s:Nat) (he:r.e=0) (hs:szB s=true) (hq:r.at_+s≤L) (hN:nbN B r.at_ s<mstN s) (w:World) (h:RdC lo hi w g L B r):Calls Tryz.prog 40 #[.pointer (some ⟨g,0,none⟩),.int .i64 s] w fun e w'=>e = .returned (.int .i64 ((nbN B r.at_ s:Nat):Int))∧RdC lo hi w' g L B ⟨r.at_+s,0⟩∧Out g 0 2 w w':=by
 have c:=cReads_any lo hi g L B r w h
 rw [decide_eq_true he] at c
 have cs:=cSize_any s w
 rw [hs] at cs
 have hs':=szB_cases hs
 have cm:=cMost_any s (by omega) w
 have cp:=cPass_any lo hi g L B r s hq w h
 rw [he] at cp
 obtain ⟨v,⟨c0,-⟩,-,-,hv⟩:=h.cells
 obtain ⟨xo,cx,x1,d1,-,-,rfl,-,hsl,hv1,-,-⟩:=hv.cut s (by omega)
 have hh:hi≤w.heap.size:=h.choose_spec.2.2.2.2
 have cj:=cJoin_any _ s _ (fun j=>lB (r.at_+j)) (by omega) w (hv1.of hh)
 rw [nbN_shift] at cj
 obtain ⟨p,hp⟩:∃ p,p=L - r.at_:=⟨_,rfl⟩
 rw [←hp] at c0 hsl
 have t1:¬(p:Int)<(s:Int):=by omega
 have hml:=mstN_lt s (by omega)
 obtain ⟨z,hz⟩:∃ z:Int,z=((nbN B r.at_ s:Nat):Int):=⟨_,rfl⟩
 rw [←hz] at cj ⊢
 obtain ⟨y,hy⟩:∃ y:Int,y=((mstN s - 1:Nat):Int):=⟨_,rfl⟩
 rw [←hy] at cm
 have e9:IntKind.u64.wrap y=y:=by show y%18446744073709551616=y;omega
 have e8:wrap64 z=z:=by unfold wrap64;omega
 have E8:=Hid.mk' e8
 have t2:¬y<z:=by omega
 clear h hs hp hq hv hv1 hs' hml hz hy hN e8
 go_enter Tryz.func40,Tryz.ntmps40
 go_wp2
 refine wp_scope_fwd 0 rfl ?_
 go_wp2_with (first
  | (go_at_call 70;refine c.mono ?_;clear c;rintro e w1 ⟨rfl,hw⟩;obtain rfl:=hw.symm)
  | (go_at_call 71;refine cs.mono ?_;clear cs;rintro e w1 ⟨rfl,hw⟩;obtain rfl:=hw.symm)
  | (go_at_call 72;refine cj.mono ?_;clear cj;rintro e w1 ⟨rfl,hw⟩;obtain rfl:=hw.symm)
  | (go_at_call 73;refine cm.mono ?_;clear cm;rintro e w1 ⟨rfl,hw⟩;obtain rfl:=hw.symm)
  | (go_at_call 74;refine cp.mono ?_;clear cp;rintro e w2 ⟨v2,rfl,hv2,hr2,o2⟩))
 rw [jump_ret]
 go_ret
 exact ⟨by show Ending.returned (.int .i64 (wrap64 z))=_;rw [E8.out],hr2,o2⟩
theorem nbN_eight {B:Nat→Nat} (lB:∀ j,B j<256) (a:Nat):mstN 8≤nbN B a 8↔64≤B a:=by
 have h:∀ s,nbN B a (s+1)<(B a+1)*256 ^ s∧B a*256 ^ s≤nbN B a (s+1):=fun s=>by
  induction s with
  | zero=>show 0*256+B (a+0)<(B a+1)*1∧B a*1≤0*256+B (a+0);rw [Nat.add_zero];omega
  | succ s ih =>
   obtain ⟨h1,h2⟩:=ih
   have:=lB (a+(s+1))
   show nbN B a (s+1)*256+B (a+(s+1))<(B a+1)*(256 ^ s*256)∧B a*(256 ^ s*256)≤nbN B a (s+1)*256+B (a+(s+1))
   rw [←Nat.mul_assoc,←Nat.mul_assoc]
   generalize (B a+1)*256 ^ s=X at *
   generalize B a*256 ^ s=Y at *
   omega
 obtain ⟨h1,h2⟩:nbN B a 8<(B a+1)*256 ^ 7∧B a*256 ^ 7≤nbN B a 8:=h 7
 show 4611686018427387904≤nbN B a 8↔_
 simp only [Nat.reducePow] at h1 h2
 have:=lB a
 omega
theorem cNumR_any (lo hi g L:Nat) (B:Nat→Nat) (lB:∀ j,B j<256) (r:Rd) (s:Int) (w:World) (h:RdC lo hi w g L B r):Calls Tryz.prog 40 #[.pointer (some ⟨g,0,none⟩),.int .i64 s] w fun e w'=>e = .returned (.int .i64 (((numD L B s r).1:Nat):Int))∧RdC lo hi w' g L B (numD L B s r).2∧Out g 0 2 w w':=by
 have ha:=h.le
 unfold numD
 by_cases he:r.e≠0
 · rw [if_pos he]
   exact (cNumR_err lo hi g L B r s he w h).mono fun e w' ⟨h1,h2⟩=>⟨h1,by rw [h2];exact h,by rw [h2];exact Out.refl _ _ _ _⟩
 replace he:r.e=0:=Decidable.not_not.mp he
 rw [if_neg (fun e=>e he)]
 by_cases hs:szB s=false
 · rw [if_pos hs]
   exact cNumR_arg lo hi g L B r s he hs w h
 rw [if_neg hs]
 replace hs:szB s=true:=by simpa using hs
 have hs':=szB_cases hs
 obtain ⟨k,rfl⟩:∃ k:Nat,s=(k:Int):=⟨s.toNat,by omega⟩
 rw [Int.toNat_natCast]
 by_cases h1:(L:Int) - (r.at_:Int)<(k:Int)
 · rw [if_pos h1]
   exact cNumR_end lo hi g L B r k he hs (by omega) w h
 rw [if_neg h1]
 have hk:k=1∨k=2∨k=4∨k=8:=by omega
 by_cases h2:(k:Int)=8∧64≤B r.at_
 · rw [if_pos h2]
   obtain rfl:k=8:=by omega
   exact cNumR_range lo hi g L B lB r 8 he hs (by omega) ((nbN_eight lB _).2 h2.2) w h
 rw [if_neg h2]
 refine cNumR_good lo hi g L B lB r k he hs (by omega) ?_ w h
 rcases hk with rfl | rfl | rfl | rfl
 · exact nbN_lt lB _ 1
 · exact nbN_lt lB _ 2
 · exact nbN_lt lB _ 4
 · exact Nat.lt_of_not_le fun e=>h2 ⟨rfl,(nbN_eight lB _).1 e⟩
end Go.Proofs.YtibmlmmoifgliaaGreatDoor
namespace Go.Proofs.YtibmlmmoifgliaaGreatDoor
open Go.RowKit
theorem RdC.size {lo hi:Nat} {w:World} {g L:Nat} {B:Nat→Nat} {r:Rd} (h:RdC lo hi w g L B r):hi≤w.heap.size:=h.choose_spec.2.2.2.2
def lenA (L:Nat) (B:Nat→Nat) (a:Nat):Nat × Rd:=lenD (L - a) (fun j=>B (a+j)) ⟨0,0⟩
theorem lenA_eq {L:Nat} {B:Nat→Nat} {r:Rd} (ha:r.at_≤L) (he:r.e=0):lenD L B r=((lenA L B r.at_).1,⟨r.at_+(lenA L B r.at_).2.at_,(lenA L B r.at_).2.e⟩):=by
 have:=lenD_shift L B r.at_ ha
 rw [show (⟨r.at_,0⟩:Rd)=r by rw [←he]] at this
 exact this
theorem lenA_le (L:Nat) (B:Nat→Nat) (a:Nat):(lenA L B a).2.at_≤L - a∧((lenA L B a).2.e≠0→(lenA L B a).1=0∧(lenA L B a).2.at_=0):=by
 unfold lenA lenD
 rw [if_neg (fun h=>h rfl)]
 split
 · exact ⟨Nat.zero_le _,fun _=>⟨rfl,rfl⟩⟩
 · split
   · exact ⟨Nat.zero_le _,fun _=>⟨rfl,rfl⟩⟩
   · split
     · exact ⟨Nat.zero_le _,fun _=>⟨rfl,rfl⟩⟩
     · split
       · exact ⟨Nat.zero_le _,fun _=>⟨rfl,rfl⟩⟩
       · rename_i h _
         refine ⟨?_,fun e=>absurd rfl e⟩
         show 0+_≤_
         rw [Nat.sub_zero] at h
         omega
set_option maxRecDepth 20000 in
set_option maxHeartbeats 2000000 in
theorem cVecR_err (lo hi g L:Nat) (B:Nat→Nat) (r:Rd) (he:r.e≠0) (w:World) (h:RdC lo hi w g L B r):Calls Tryz.prog 41 #[.pointer (some ⟨g,0,none⟩)] w fun e w'=>e = .returned (.slice none 0 0)∧w'=w:=by
 have c:=cReads_any lo hi g L B r w h
 rw [decide_eq_false he] at c
 clear h
 go_enter Tryz.func41,Tryz.ntmps41
 go_wp2
 refine wp_scope_fwd 0 rfl ?_
 go_wp2_with (go_at_call 70;refine c.mono ?_;clear c;rintro e w1 ⟨rfl,hw⟩;obtain rfl:=hw.symm)
 rw [jump_ret]
 go_ret
 exact ⟨rfl,rfl⟩
set_option maxRecDepth 20000 in
set_option maxHeartbeats 2000000 in
theorem cVecR_bad (lo hi g L:Nat) (B:Nat→Nat) (lB:∀ j,B j<256) (r:Rd) (he:r.e=0) (hb:(lenA L B r.at_).2.e≠0) (w:World) (h:RdC lo hi w g L B r):Calls Tryz.prog 41 #[.pointer (some ⟨g,0,none⟩)] w fun e w'=>e = .returned (.slice none 0 0)∧RdC lo hi w' g L B ⟨r.at_,(lenA L B r.at_).2.e⟩∧Out g 0 2 w w':=by
 have c:=cReads_any lo hi g L B r w h
 rw [decide_eq_true he] at c
 obtain ⟨v,⟨c0,-⟩,⟨c1,z1⟩,-,hv⟩:=h.cells
 have cl:=cLenAt_any _ _ _ (fun j=>lB (r.at_+j)) w (hv.of h.size)
 obtain ⟨xo,cx,-,-,-,-,rfl,-,-,-,-,-⟩:=hv.cut 0 (Nat.zero_le _)
 have Hh:=Hid.mk' h
 have ha:=h.le
 rw [he] at c1
 replace cl:Calls Tryz.prog 75 #[.slice xo (L - r.at_) cx] w fun e w'=>e=ansL (lenA L B r.at_)∧w'=w:=cl
 rw [show ansL (lenA L B r.at_) = .returned (.tuple #[.int .i64 0,.int .i64 0,.int .i64 (lenA L B r.at_).2.e]) by unfold ansL;rw [((lenA_le L B r.at_).2 hb).1,((lenA_le L B r.at_).2 hb).2];rfl] at cl
 generalize (lenA L B r.at_).2.e=er at *
 generalize L - r.at_=p at *
 clear h hv ha
 go_enter Tryz.func41,Tryz.ntmps41
 go_wp2
 refine wp_scope_fwd 0 rfl ?_
 go_wp2_with (first
  | (go_at_call 70;refine c.mono ?_;clear c;rintro e w1 ⟨rfl,hw⟩;obtain rfl:=hw.symm)
  | (go_at_call 75;refine cl.mono ?_;clear cl;rintro e w1 ⟨rfl,hw⟩;obtain rfl:=hw.symm))
 go_step3
 refine ⟨rfl,?_⟩
 go_wp2
 rw [Exit.noGoto_ret]
 go_ret
 exact ⟨rfl,Hh.out.setE er,Out.setCell _ _ (by decide) (by decide)⟩
end Go.Proofs.YtibmlmmoifgliaaGreatDoor
namespace Go.Proofs.YtibmlmmoifgliaaGreatDoor
open Go.RowKit
set_option maxRecDepth 20000 in
set_option maxHeartbeats 2000000 in
theorem cVecR_form (lo hi g L:Nat) (B:Nat→Nat) (lB:∀ j,B j<256) (r:Rd) (_hL:L<140737488355000) (he:r.e=0) (hb:(lenA L B r.at_).2.e=0) (hn:65536<(lenA L B r.at_).1) (w:World) (h:RdC lo hi w g L B r):Calls Tryz.prog 41 #[.pointer (some ⟨g,0,none⟩)] w fun e w'=>e = .returned (.slice none 0 0)∧RdC lo hi w' g L B ⟨r.at_,21⟩∧Out g 0 2 w w':=by
 have c:=cReads_any lo hi g L B r w h
 rw [decide_eq_true he] at c
 obtain ⟨v,⟨c0,-⟩,⟨c1,z1⟩,-,hv⟩:=h.cells
 have cl:=cLenAt_any _ _ _ (fun j=>lB (r.at_+j)) w (hv.of h.size)
 obtain ⟨xo,cx,-,-,-,-,rfl,-,-,-,-,-⟩:=hv.cut 0 (Nat.zero_le _)
 have Hh:=Hid.mk' h
 have ha:=h.le
 have hle:=(lenA_le L B r.at_).1
 replace cl:Calls Tryz.prog 75 #[.slice xo (L - r.at_) cx] w fun e w'=>e=ansL (lenA L B r.at_)∧w'=w:=cl
 unfold ansL at cl
 rw [hb] at cl
 generalize (lenA L B r.at_).2.at_=sz at *
 generalize (lenA L B r.at_).1=n at *
 rw [he] at c1
 obtain ⟨z,hz⟩:∃ z:Int,z=(n:Int):=⟨_,rfl⟩
 rw [←hz] at cl
 have t1:(65536:Int)<z:=by omega
 clear hle hn hz
 generalize L - r.at_=p at *
 clear h hv ha hb
 go_enter Tryz.func41,Tryz.ntmps41
 go_wp2
 refine wp_scope_fwd 0 rfl ?_
 go_wp2_with (first
  | (go_at_call 70;refine c.mono ?_;clear c;rintro e w1 ⟨rfl,hw⟩;obtain rfl:=hw.symm)
  | (go_at_call 75;refine cl.mono ?_;clear cl;rintro e w1 ⟨rfl,hw⟩;obtain rfl:=hw.symm))
 go_step3
 refine ⟨rfl,?_⟩
 go_wp2
 rw [Exit.noGoto_ret]
 go_ret
 exact ⟨rfl,Hh.out.setE 21,Out.setCell _ _ (by decide) (by decide)⟩
set_option maxRecDepth 20000 in
set_option maxHeartbeats 2000000 in
theorem cVecR_end (lo hi g L:Nat) (B:Nat→Nat) (lB:∀ j,B j<256) (r:Rd) (_hL:L<140737488355000) (he:r.e=0) (hb:(lenA L B r.at_).2.e=0) (hn:¬65536<(lenA L B r.at_).1) (hq:L<r.at_+(lenA L B r.at_).2.at_+(lenA L B r.at_).1) (w:World) (h:RdC lo hi w g L B r):Calls Tryz.prog 41 #[.pointer (some ⟨g,0,none⟩)] w fun e w'=>e = .returned (.slice none 0 0)∧RdC lo hi w' g L B ⟨r.at_,20⟩∧Out g 0 2 w w':=by
 have c:=cReads_any lo hi g L B r w h
 rw [decide_eq_true he] at c
 obtain ⟨v,⟨c0,-⟩,⟨c1,z1⟩,-,hv⟩:=h.cells
 have cl:=cLenAt_any _ _ _ (fun j=>lB (r.at_+j)) w (hv.of h.size)
 obtain ⟨xo,cx,-,-,-,-,rfl,-,-,-,-,-⟩:=hv.cut 0 (Nat.zero_le _)
 have Hh:=Hid.mk' h
 have ha:=h.le
 have hle:=(lenA_le L B r.at_).1
 replace cl:Calls Tryz.prog 75 #[.slice xo (L - r.at_) cx] w fun e w'=>e=ansL (lenA L B r.at_)∧w'=w:=cl
 unfold ansL at cl
 rw [hb] at cl
 generalize (lenA L B r.at_).2.at_=sz at *
 generalize (lenA L B r.at_).1=n at *
 rw [he] at c1
 obtain ⟨z,hz⟩:∃ z:Int,z=(n:Int):=⟨_,rfl⟩
 rw [←hz] at cl
 obtain ⟨p,hp⟩:∃ p,p=L - r.at_:=⟨_,rfl⟩
 rw [←hp] at cl c0
 have t1:¬(65536:Int)<z:=by omega
 have t3:(p:Int) - (sz:Int)<z:=by omega
 have t4:wrap64 ((p:Int) - (sz:Int))<z:=by unfold wrap64;omega
 clear hle hn hz hp hq
 clear h hv ha hb
 go_enter Tryz.func41,Tryz.ntmps41
 go_wp2
 refine wp_scope_fwd 0 rfl ?_
 go_wp2_with (first
  | (go_at_call 70;refine c.mono ?_;clear c;rintro e w1 ⟨rfl,hw⟩;obtain rfl:=hw.symm)
  | (go_at_call 75;refine cl.mono ?_;clear cl;rintro e w1 ⟨rfl,hw⟩;obtain rfl:=hw.symm))
 go_step3
 refine ⟨rfl,?_⟩
 go_wp2
 rw [Exit.noGoto_ret]
 go_ret
 exact ⟨rfl,Hh.out.setE 20,Out.setCell _ _ (by decide) (by decide)⟩
set_option maxRecDepth 20000 in
set_option maxHeartbeats 2000000 in
theorem cVecR_good (lo hi g L:Nat) (B:Nat→Nat) (lB:∀ j,B j<256) (r:Rd) (hL:L<140737488355000) (he:r.e=0) (hb:(lenA L B r.at_).2.e=0) (hn:¬65536<(lenA L B r.at_).1) (hq:r.at_+(lenA L B r.at_).2.at_+(lenA L B r.at_).1≤L) (w:World) (h:RdC lo hi w g L B r):Calls Tryz.prog 41 #[.pointer (some ⟨g,0,none⟩)] w fun e w'=>∃ v,e = .returned v∧Own w.heap.size w' v (lenA L B r.at_).1 (fun j=>B (r.at_+(lenA L B r.at_).2.at_+j))∧RdC lo hi w' g L B ⟨r.at_+(lenA L B r.at_).2.at_+(lenA L B r.at_).1,0⟩∧Out g 0 2 w w':=by
 have c:=cReads_any lo hi g L B r w h
 rw [decide_eq_true he] at c
 obtain ⟨v,⟨c0,-⟩,⟨c1,z1⟩,-,hv⟩:=h.cells
 have cl:=cLenAt_any _ _ _ (fun j=>lB (r.at_+j)) w (hv.of h.size)
 obtain ⟨xo,cx,-,-,-,-,rfl,-,-,-,-,-⟩:=hv.cut 0 (Nat.zero_le _)
 have Hh:=Hid.mk' h
 have ha:=h.le
 have hle:=(lenA_le L B r.at_).1
 replace cl:Calls Tryz.prog 75 #[.slice xo (L - r.at_) cx] w fun e w'=>e=ansL (lenA L B r.at_)∧w'=w:=cl
 unfold ansL at cl
 rw [hb] at cl
 generalize (lenA L B r.at_).2.at_=sz at *
 generalize (lenA L B r.at_).1=n at *
 rw [he] at c1
 have cp:=cPass_any lo hi g L B r sz (by omega) w h
 rw [he] at cp
 have cq:=fun w2 h2=>cPass_any lo hi g L B ⟨r.at_+sz,0⟩ n hq w2 h2
 have gl:=h.lt
 have hn':n<140737488355000:=by omega
 obtain ⟨p,hp⟩:∃ p,p=L - r.at_:=⟨_,rfl⟩
 rw [←hp] at cl c0
 obtain ⟨z,hz⟩:∃ z:Int,z=(n:Int):=⟨_,rfl⟩
 rw [←hz] at cl cq
 have t1:¬(65536:Int)<z:=by omega
 have t3:¬(p:Int) - (sz:Int)<z:=by omega
 have t4:¬wrap64 ((p:Int) - (sz:Int))<z:=by unfold wrap64;omega
 clear hle hn hp hq hz
 clear h hv ha hb c1 z1 Hh
 go_enter Tryz.func41,Tryz.ntmps41
 go_wp2
 refine wp_scope_fwd 0 rfl ?_
 go_wp2_with (first
  | (go_at_call 70;refine c.mono ?_;clear c;rintro e w1 ⟨rfl,hw⟩;obtain rfl:=hw.symm)
  | (go_at_call 75;refine cl.mono ?_;clear cl;rintro e w1 ⟨rfl,hw⟩;obtain rfl:=hw.symm)
  | (go_at_call 74;refine cp.mono ?_;clear cp;rintro e w2 ⟨v2,rfl,-,hr2,o2⟩;(have cq2:=cq w2 hr2);clear cq)
  | (go_at_call 74;refine cq2.mono ?_;clear cq2;rintro e w3 ⟨v3,rfl,hv3,hr3,o3⟩;(have cc:=cClone_any v3 n _ hn' w3 (hv3.of hr3.size)))
  | (go_at_call 69;refine cc.mono ?_;clear cc;rintro e w4 ⟨u4,rfl,own4,b4⟩))
 rw [jump_ret]
 go_ret
 have o:=o2.trans o3
 exact ⟨_,rfl,World.ownsRow.mono own4 o.size,hr3.still b4,o.trans (Out.of_below b4 (Nat.lt_of_lt_of_le gl o.size))⟩
theorem cVecR_any (lo hi g L:Nat) (B:Nat→Nat) (lB:∀ j,B j<256) (r:Rd) (hL:L<140737488355000) (w:World) (h:RdC lo hi w g L B r):Calls Tryz.prog 41 #[.pointer (some ⟨g,0,none⟩)] w fun e w'=>∃ v,e = .returned v∧Own w.heap.size w' v (vecD L B r).1 (fun j=>B ((lenD L B r).2.at_+j))∧RdC lo hi w' g L B (vecD L B r).2∧Out g 0 2 w w':=by
 have ha:=h.le
 unfold vecD
 by_cases he:r.e≠0
 · have e0:lenD L B r=(0,r):=by unfold lenD;rw [if_pos he]
   have e1:takD L ((0:Nat):Int) r=(0,r):=by unfold takD;rw [if_pos he]
   simp only [e0,if_neg (fun (e:r.e=0∧65536<0)=>he e.1),e1,if_pos he]
   exact (cVecR_err lo hi g L B r he w h).mono fun e w' ⟨h1,h2⟩=>⟨_,h1,Own.nil _ _ _,by rw [h2];exact h,by rw [h2];exact Out.refl _ _ _ _⟩
 replace he:r.e=0:=Decidable.not_not.mp he
 rw [lenA_eq ha he]
 dsimp only
 by_cases hb:(lenA L B r.at_).2.e=0
 · by_cases hn:65536<(lenA L B r.at_).1
   · have e1:takD L (((lenA L B r.at_).1:Nat):Int) ⟨r.at_+(lenA L B r.at_).2.at_,21⟩=(0,⟨r.at_+(lenA L B r.at_).2.at_,21⟩):=by unfold takD;exact if_pos (fun e=>by cases e)
     rw [if_pos (show (lenA L B r.at_).2.e=0∧65536<(lenA L B r.at_).1 from ⟨hb,hn⟩),e1,if_pos (show (21:Int)≠0 by decide)]
     exact (cVecR_form lo hi g L B lB r hL he hb hn w h).mono fun e w' ⟨h1,h2,h3⟩=>⟨_,h1,Own.nil _ _ _,h2,h3⟩
   rw [if_neg (fun (e:(lenA L B r.at_).2.e=0∧65536<(lenA L B r.at_).1)=>hn e.2),hb]
   by_cases hq:L<r.at_+(lenA L B r.at_).2.at_+(lenA L B r.at_).1
   · have e1:takD L (((lenA L B r.at_).1:Nat):Int) ⟨r.at_+(lenA L B r.at_).2.at_,0⟩=(0,⟨r.at_+(lenA L B r.at_).2.at_,20⟩):=by
      unfold takD
      rw [if_neg (fun e=>e rfl),if_neg (by omega),if_pos (by show (L:Int) - ((r.at_+(lenA L B r.at_).2.at_:Nat):Int)<_;omega)]
     rw [e1,if_pos (show (20:Int)≠0 by decide)]
     exact (cVecR_end lo hi g L B lB r hL he hb hn hq w h).mono fun e w' ⟨h1,h2,h3⟩=>⟨_,h1,Own.nil _ _ _,h2,h3⟩
   · have e1:takD L (((lenA L B r.at_).1:Nat):Int) ⟨r.at_+(lenA L B r.at_).2.at_,0⟩=((lenA L B r.at_).1,⟨r.at_+(lenA L B r.at_).2.at_+(lenA L B r.at_).1,0⟩):=by
      unfold takD
      rw [if_neg (fun e=>e rfl),if_neg (by omega),if_neg (by show ¬(L:Int) - ((r.at_+(lenA L B r.at_).2.at_:Nat):Int)<_;omega),Int.toNat_natCast]
     rw [e1,if_neg (show ¬(0:Int)≠0 from fun e=>e rfl)]
     exact cVecR_good lo hi g L B lB r hL he hb hn (by omega) w h
 · have hz:=(lenA_le L B r.at_).2 hb
   have e1:takD L (((lenA L B r.at_).1:Nat):Int) ⟨r.at_+(lenA L B r.at_).2.at_,(lenA L B r.at_).2.e⟩=(0,⟨r.at_+(lenA L B r.at_).2.at_,(lenA L B r.at_).2.e⟩):=by unfold takD;rw [if_pos hb]
   rw [if_neg (fun (e:(lenA L B r.at_).2.e=0∧65536<(lenA L B r.at_).1)=>hb e.1),e1,if_pos hb]
   exact (cVecR_bad lo hi g L B lB r he hb w h).mono fun e w' ⟨h1,h2,h3⟩=>⟨_,h1,Own.nil _ _ _,h2,h3⟩
end Go.Proofs.YtibmlmmoifgliaaGreatDoor
namespace Go.Proofs.YtibmlmmoifgliaaGreatDoor
open Go.RowKit
theorem RdC.ge {lo hi:Nat} {w:World} {g L:Nat} {B:Nat→Nat} {r:Rd} (h:RdC lo hi w g L B r):lo≤g:=h.choose_spec.2.2.2.1.1
end Go.Proofs.YtibmlmmoifgliaaGreatDoor
