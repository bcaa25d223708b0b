/- What the proof stands on: D1CD, D1CH, D1CI, D1CJ, Grw, D1CE, D1CF, D1KN, D1Bl, D1OL, D1VS, D1LA, D1CK, D1LB, Kit. -/
import Derived.Test.YtibgjjbnehhanaaBaseM
import Derived.ChangeOld
import Derived.ChangeSlices
import Derived.Deep.DeepHandedRow
import Derived.Lib.LaidTab
import Derived.Lib.SlBytesConst
import Derived.OpenShut
import Derived.ProofKit
import Derived.ScopeJumps
import Derived.SizedLaws
import Derived.WalkKit
import Derived.WalkMore
namespace Go.Proofs.Ytibgjjbnehhanaa
open Go.RowKit
theorem lenD_shift (L:Nat) (B:Nat→Nat) (a:Nat) (ha:a≤L):lenD L B ⟨a,0⟩=((lenD (L - a) (fun j=>B (a+j)) ⟨0,0⟩).1,⟨a+(lenD (L - a) (fun j=>B (a+j)) ⟨0,0⟩).2.at_,(lenD (L - a) (fun j=>B (a+j)) ⟨0,0⟩).2.e⟩):=by
 unfold lenD
 simp only [nbN_shift,Nat.add_zero,ne_eq,not_true_eq_false,if_false]
 by_cases h0:L=a
 · rw [if_pos h0,if_pos (by omega)];rfl
 rw [if_neg h0,if_neg (show ¬L - a=0 by omega)]
 by_cases h1:B a / 64=3
 · rw [if_pos h1,if_pos h1];rfl
 rw [if_neg h1,if_neg h1,Nat.sub_zero]
 by_cases h2:L - a<2 ^ (B a / 64)
 · rw [if_pos h2,if_pos h2];rfl
 rw [if_neg h2,if_neg h2]
 split
 · rfl
 · simp
theorem wp_scope_fwd {P:Program} {a:Act} {w:World} {Q:Exit→Act→World→Prop} {c rest:Code} (l:Nat) (hf:findLabel c l=some rest) (first:c.wp P (Exit.jump l (fun a w=>rest.wp P (Exit.noGoto Q) a w) Q) a w):(Code.scope c).wp P Q a w :=
 wp_scope_jumps l (fun a w=>rest.wp P (Exit.noGoto Q) a w) (fun _ _=>0) hf first fun a w h=>Code.wp_mono (fun e a w hq=>by
  cases e with
  | goto l=>exact absurd hq (fun h=>h)
  | _=>exact hq) h
theorem jump_ret {l:Nat} {J:Act→World→Prop} {Q:Exit→Act→World→Prop} {a:Act} {w:World}:Exit.jump l J Q .ret a w=Q .ret a w:=rfl
def ansL (p:Nat × Rd):Ending := .returned (.tuple #[.int .i64 ((p.1:Nat):Int),.int .i64 ((p.2.at_:Nat):Int),.int .i64 p.2.e])
set_option maxRecDepth 20000 in
set_option maxHeartbeats 4000000 in
theorem cLenAt_empty (v:Value) (B:Nat→Nat) (w:World) (hv:BytesIn w v 0 B):Calls Try.prog 53 #[v] w fun e w'=>e = .returned (.tuple #[.int .i64 0,.int .i64 0,.int .i64 20])∧w'=w:=by
 obtain ⟨xo,cx,rfl,-,-,-⟩:=hv.src
 clear hv
 go_enter Try.func53,Try.ntmps53
 go_wp2
 refine wp_scope_fwd 0 rfl ?_
 go_wp2
 go_step3
 refine ⟨rfl,?_⟩
 go_wp2
 rw [Exit.noGoto_ret]
 go_ret3
 exact ⟨rfl,rfl⟩
theorem at_first {w:World} {v:Value} {L:Nat} {B:Nat→Nat} (hv:BytesIn w v L B) (h0:0<L):∃ bb ob cap,v = .slice (some ⟨bb,ob,none⟩) L cap∧w.cell? ⟨bb,ob,none⟩=some (.int .u8 ((B 0:Nat):Int)):=by
 rcases hv with ⟨xo,-,h⟩ | ⟨bb,ob,cap,rfl,hbb,hc,hcell⟩
 · omega
 · exact ⟨bb,ob,cap,rfl,hcell 0 h0⟩
set_option maxRecDepth 20000 in
set_option maxHeartbeats 4000000 in
theorem cLenAt_three (v:Value) (L:Nat) (B:Nat→Nat) (w:World) (hv:BytesIn w v L B) (h0:0<L) (ht:B 0 / 64=3):Calls Try.prog 53 #[v] w fun e w'=>e = .returned (.tuple #[.int .i64 0,.int .i64 0,.int .i64 21])∧w'=w:=by
 obtain ⟨bb,ob,cap,rfl,f0⟩:=at_first hv h0
 obtain ⟨y,hy⟩:∃ y,y=B 0:=⟨_,rfl⟩
 rw [←hy] at ht f0
 have e1:(y:Int) / 64=3:=by omega
 have t0:¬(L:Int)=0:=by omega
 have t1:(0:Int)<(L:Int):=by omega
 clear hv ht hy
 go_enter Try.func53,Try.ntmps53
 go_wp2
 refine wp_scope_fwd 0 rfl ?_
 go_wp2
 go_step3
 refine ⟨rfl,?_⟩
 go_wp2
 rw [Exit.noGoto_ret]
 go_ret3
 exact ⟨rfl,rfl⟩
set_option maxRecDepth 20000 in
set_option maxHeartbeats 4000000 in
theorem cLenAt_end2 (v:Value) (L:Nat) (B:Nat→Nat) (w:World) (hv:BytesIn w v L B) (h0:0<L) (ht:B 0 / 64=1) (h2:L<2):Calls Try.prog 53 #[v] w fun e w'=>e = .returned (.tuple #[.int .i64 0,.int .i64 0,.int .i64 20])∧w'=w:=by
 obtain ⟨bb,ob,cap,rfl,f0⟩:=at_first hv h0
 obtain ⟨y,hy⟩:∃ y,y=B 0:=⟨_,rfl⟩
 rw [←hy] at ht f0
 have e1:(y:Int) / 64=1:=by omega
 have t0:¬(L:Int)=0:=by omega
 have t1:(0:Int)<(L:Int):=by omega
 have t3:(L:Int)<2:=by omega
 clear h2
 clear hv ht hy
 go_enter Try.func53,Try.ntmps53
 go_wp2
 refine wp_scope_fwd 0 rfl ?_
 go_wp2
 go_step3
 refine ⟨rfl,?_⟩
 go_wp2
 rw [Exit.noGoto_ret]
 go_ret3
 exact ⟨rfl,rfl⟩
set_option maxRecDepth 20000 in
set_option maxHeartbeats 4000000 in
theorem cLenAt_end4 (v:Value) (L:Nat) (B:Nat→Nat) (w:World) (hv:BytesIn w v L B) (h0:0<L) (ht:B 0 / 64=2) (h2:L<4):Calls Try.prog 53 #[v] w fun e w'=>e = .returned (.tuple #[.int .i64 0,.int .i64 0,.int .i64 20])∧w'=w:=by
 obtain ⟨bb,ob,cap,rfl,f0⟩:=at_first hv h0
 obtain ⟨y,hy⟩:∃ y,y=B 0:=⟨_,rfl⟩
 rw [←hy] at ht f0
 have e1:(y:Int) / 64=2:=by omega
 have t0:¬(L:Int)=0:=by omega
 have t1:(0:Int)<(L:Int):=by omega
 have t3:(L:Int)<4:=by omega
 clear h2
 clear hv ht hy
 go_enter Try.func53,Try.ntmps53
 go_wp2
 refine wp_scope_fwd 0 rfl ?_
 go_wp2
 go_step3
 refine ⟨rfl,?_⟩
 go_wp2
 rw [Exit.noGoto_ret]
 go_ret3
 exact ⟨rfl,rfl⟩
set_option maxRecDepth 20000 in
set_option maxHeartbeats 4000000 in
theorem cLenAt_good1 (v:Value) (L:Nat) (B:Nat→Nat) (lB:∀ j,B j<256) (w:World) (hv:BytesIn w v L B) (h0:0<L) (ht:B 0 / 64=0) (h2:1≤L) (h3:knI ((nbN B 0 1%64:Nat):Int)=0):Calls Try.prog 53 #[v] w fun e w'=>e = .returned (.tuple #[.int .i64 ((nbN B 0 1%64:Nat):Int),.int .i64 1,.int .i64 0])∧w'=w:=by
 obtain ⟨bb,ob,cap,rfl,f0⟩:=at_first hv h0
 obtain ⟨xo,cx,x1,c1,-,-,e0,-,hsl,hv1,-,-⟩:=(BI.all hv).cut 1 (by omega)
 cases e0
 replace hsl:∀ W:World,(Instr.sliceAt 22 (.slice (some ⟨bb,ob,none⟩) L cap) none (some (.int .i64 1)) none).run Try.prog W = .ok (.slice x1 1 c1) W:=hsl
 have cj:=cJoin_any _ 1 B lB (by decide) w (hv1.of (Nat.le_refl _))
 have cb:Calls Try.prog 45 #[.int .i64 0] w fun e w'=>e = .returned (.int .i64 6)∧w'=w:=cBits_any 0 (by decide) w
 have hN:nbN B 0 1 / 64=0:=by
  rw [nbN_one]
  try simp only [Nat.zero_add]
  have:=lB 0
  have:=lB 1
  have:=lB 2
  have:=lB 3
  omega
 obtain ⟨m,hm⟩:∃ m:Int,m=((nbN B 0 1%64:Nat):Int):=⟨_,rfl⟩
 have ck:=cKind_any m w
 rw [←hm] at h3 ⊢
 obtain ⟨z,hz⟩:∃ z:Int,z=((nbN B 0 1:Nat):Int):=⟨_,rfl⟩
 rw [←hz] at cj
 have e8:wrap64 (wrap64 z)=m:=by unfold wrap64;omega
 replace ck:Calls Try.prog 44 #[.int .i64 m] w fun e w'=>e = .returned (.int .i64 0)∧w'=w:=by rw [h3] at ck;exact ck
 obtain ⟨y,hy⟩:∃ y,y=B 0:=⟨_,rfl⟩
 rw [←hy] at ht f0
 have e1:(y:Int) / 64=0:=by omega
 have t0:¬(L:Int)=0:=by omega
 have t1:(0:Int)<(L:Int):=by omega
 have t3:¬(L:Int)<1:=by omega
 clear hv ht hy h2 hN hm hz hv1 h3
 go_enter Try.func53,Try.ntmps53
 go_wp2
 refine wp_scope_fwd 0 rfl ?_
 go_wp2_with (first
  | (go_at_call 50;refine cj.mono ?_;clear cj;rintro e w1 ⟨rfl,hw⟩;obtain rfl:=hw.symm)
  | (go_at_call 45;refine cb.mono ?_;clear cb;rintro e w1 ⟨rfl,hw⟩;obtain rfl:=hw.symm)
  | (go_at_call 44;(try rw [e8]);with_reducible refine ck.mono ?_;clear ck;rintro e w1 ⟨rfl,hw⟩;obtain rfl:=hw.symm))
 rw [jump_ret]
 go_ret3
 exact ⟨rfl,rfl⟩
set_option maxRecDepth 20000 in
set_option maxHeartbeats 4000000 in
theorem cLenAt_good2 (v:Value) (L:Nat) (B:Nat→Nat) (lB:∀ j,B j<256) (w:World) (hv:BytesIn w v L B) (h0:0<L) (ht:B 0 / 64=1) (h2:2≤L) (h3:knI ((nbN B 0 2%16384:Nat):Int)=1):Calls Try.prog 53 #[v] w fun e w'=>e = .returned (.tuple #[.int .i64 ((nbN B 0 2%16384:Nat):Int),.int .i64 2,.int .i64 0])∧w'=w:=by
 obtain ⟨bb,ob,cap,rfl,f0⟩:=at_first hv h0
 obtain ⟨xo,cx,x1,c1,-,-,e0,-,hsl,hv1,-,-⟩:=(BI.all hv).cut 2 (by omega)
 cases e0
 replace hsl:∀ W:World,(Instr.sliceAt 22 (.slice (some ⟨bb,ob,none⟩) L cap) none (some (.int .i64 2)) none).run Try.prog W = .ok (.slice x1 2 c1) W:=hsl
 have cj:=cJoin_any _ 2 B lB (by decide) w (hv1.of (Nat.le_refl _))
 have cb:Calls Try.prog 45 #[.int .i64 1] w fun e w'=>e = .returned (.int .i64 14)∧w'=w:=cBits_any 1 (by decide) w
 have hN:nbN B 0 2 / 16384=1:=by
  rw [nbN_two]
  try simp only [Nat.zero_add]
  have:=lB 0
  have:=lB 1
  have:=lB 2
  have:=lB 3
  omega
 obtain ⟨m,hm⟩:∃ m:Int,m=((nbN B 0 2%16384:Nat):Int):=⟨_,rfl⟩
 have ck:=cKind_any m w
 rw [←hm] at h3 ⊢
 obtain ⟨z,hz⟩:∃ z:Int,z=((nbN B 0 2:Nat):Int):=⟨_,rfl⟩
 rw [←hz] at cj
 have e8:wrap64 (wrap64 z - 16384)=m:=by unfold wrap64;omega
 replace ck:Calls Try.prog 44 #[.int .i64 m] w fun e w'=>e = .returned (.int .i64 1)∧w'=w:=by rw [h3] at ck;exact ck
 obtain ⟨y,hy⟩:∃ y,y=B 0:=⟨_,rfl⟩
 rw [←hy] at ht f0
 have e1:(y:Int) / 64=1:=by omega
 have t0:¬(L:Int)=0:=by omega
 have t1:(0:Int)<(L:Int):=by omega
 have t3:¬(L:Int)<2:=by omega
 clear hv ht hy h2 hN hm hz hv1 h3
 go_enter Try.func53,Try.ntmps53
 go_wp2
 refine wp_scope_fwd 0 rfl ?_
 go_wp2_with (first
  | (go_at_call 50;refine cj.mono ?_;clear cj;rintro e w1 ⟨rfl,hw⟩;obtain rfl:=hw.symm)
  | (go_at_call 45;refine cb.mono ?_;clear cb;rintro e w1 ⟨rfl,hw⟩;obtain rfl:=hw.symm)
  | (go_at_call 44;(try rw [e8]);with_reducible refine ck.mono ?_;clear ck;rintro e w1 ⟨rfl,hw⟩;obtain rfl:=hw.symm))
 rw [jump_ret]
 go_ret3
 exact ⟨rfl,rfl⟩
set_option maxRecDepth 20000 in
set_option maxHeartbeats 4000000 in
theorem cLenAt_good4 (v:Value) (L:Nat) (B:Nat→Nat) (lB:∀ j,B j<256) (w:World) (hv:BytesIn w v L B) (h0:0<L) (ht:B 0 / 64=2) (h2:4≤L) (h3:knI ((nbN B 0 4%1073741824:Nat):Int)=2):Calls Try.prog 53 #[v] w fun e w'=>e = .returned (.tuple #[.int .i64 ((nbN B 0 4%1073741824:Nat):Int),.int .i64 4,.int .i64 0])∧w'=w:=by
 obtain ⟨bb,ob,cap,rfl,f0⟩:=at_first hv h0
 obtain ⟨xo,cx,x1,c1,-,-,e0,-,hsl,hv1,-,-⟩:=(BI.all hv).cut 4 (by omega)
 cases e0
 replace hsl:∀ W:World,(Instr.sliceAt 22 (.slice (some ⟨bb,ob,none⟩) L cap) none (some (.int .i64 4)) none).run Try.prog W = .ok (.slice x1 4 c1) W:=hsl
 have cj:=cJoin_any _ 4 B lB (by decide) w (hv1.of (Nat.le_refl _))
 have cb:Calls Try.prog 45 #[.int .i64 2] w fun e w'=>e = .returned (.int .i64 30)∧w'=w:=cBits_any 2 (by decide) w
 have hN:nbN B 0 4 / 1073741824=2:=by
  rw [nbN_four]
  try simp only [Nat.zero_add]
  have:=lB 0
  have:=lB 1
  have:=lB 2
  have:=lB 3
  omega
 obtain ⟨m,hm⟩:∃ m:Int,m=((nbN B 0 4%1073741824:Nat):Int):=⟨_,rfl⟩
 have ck:=cKind_any m w
 rw [←hm] at h3 ⊢
 obtain ⟨z,hz⟩:∃ z:Int,z=((nbN B 0 4:Nat):Int):=⟨_,rfl⟩
 rw [←hz] at cj
 have e8:wrap64 (wrap64 z - 2147483648)=m:=by unfold wrap64;omega
 replace ck:Calls Try.prog 44 #[.int .i64 m] w fun e w'=>e = .returned (.int .i64 2)∧w'=w:=by rw [h3] at ck;exact ck
 obtain ⟨y,hy⟩:∃ y,y=B 0:=⟨_,rfl⟩
 rw [←hy] at ht f0
 have e1:(y:Int) / 64=2:=by omega
 have t0:¬(L:Int)=0:=by omega
 have t1:(0:Int)<(L:Int):=by omega
 have t3:¬(L:Int)<4:=by omega
 clear hv ht hy h2 hN hm hz hv1 h3
 go_enter Try.func53,Try.ntmps53
 go_wp2
 refine wp_scope_fwd 0 rfl ?_
 go_wp2_with (first
  | (go_at_call 50;refine cj.mono ?_;clear cj;rintro e w1 ⟨rfl,hw⟩;obtain rfl:=hw.symm)
  | (go_at_call 45;refine cb.mono ?_;clear cb;rintro e w1 ⟨rfl,hw⟩;obtain rfl:=hw.symm)
  | (go_at_call 44;(try rw [e8]);with_reducible refine ck.mono ?_;clear ck;rintro e w1 ⟨rfl,hw⟩;obtain rfl:=hw.symm))
 rw [jump_ret]
 go_ret3
 exact ⟨rfl,rfl⟩
set_option maxRecDepth 20000 in
set_option maxHeartbeats 4000000 in
theorem cLenAt_form2 (v:Value) (L:Nat) (B:Nat→Nat) (lB:∀ j,B j<256) (w:World) (hv:BytesIn w v L B) (h0:0<L) (ht:B 0 / 64=1) (h2:2≤L) (h3:¬knI ((nbN B 0 2%16384:Nat):Int)=1):Calls Try.prog 53 #[v] w fun e w'=>e = .returned (.tuple #[.int .i64 0,.int .i64 0,.int .i64 21])∧w'=w:=by
 obtain ⟨bb,ob,cap,rfl,f0⟩:=at_first hv h0
 obtain ⟨xo,cx,x1,c1,-,-,e0,-,hsl,hv1,-,-⟩:=(BI.all hv).cut 2 (by omega)
 cases e0
 replace hsl:∀ W:World,(Instr.sliceAt 22 (.slice (some ⟨bb,ob,none⟩) L cap) none (some (.int .i64 2)) none).run Try.prog W = .ok (.slice x1 2 c1) W:=hsl
 have cj:=cJoin_any _ 2 B lB (by decide) w (hv1.of (Nat.le_refl _))
 have cb:Calls Try.prog 45 #[.int .i64 1] w fun e w'=>e = .returned (.int .i64 14)∧w'=w:=cBits_any 1 (by decide) w
 have hN:nbN B 0 2 / 16384=1:=by
  rw [nbN_two]
  try simp only [Nat.zero_add]
  have:=lB 0
  have:=lB 1
  have:=lB 2
  have:=lB 3
  omega
 obtain ⟨m,hm⟩:∃ m:Int,m=((nbN B 0 2%16384:Nat):Int):=⟨_,rfl⟩
 have ck:=cKind_any m w
 rw [←hm] at h3
 obtain ⟨z,hz⟩:∃ z:Int,z=((nbN B 0 2:Nat):Int):=⟨_,rfl⟩
 rw [←hz] at cj
 have e8:wrap64 (wrap64 z - 16384)=m:=by unfold wrap64;omega
 obtain ⟨q,hq⟩:∃ q:Int,q=((knI m:Nat):Int):=⟨_,rfl⟩
 rw [←hq] at ck
 have t7:¬q=1:=by omega
 clear hq
 obtain ⟨y,hy⟩:∃ y,y=B 0:=⟨_,rfl⟩
 rw [←hy] at ht f0
 have e1:(y:Int) / 64=1:=by omega
 have t0:¬(L:Int)=0:=by omega
 have t1:(0:Int)<(L:Int):=by omega
 have t3:¬(L:Int)<2:=by omega
 clear hv ht hy h2 hN hm hz hv1 h3
 go_enter Try.func53,Try.ntmps53
 go_wp2
 refine wp_scope_fwd 0 rfl ?_
 go_wp2_with (first
  | (go_at_call 50;refine cj.mono ?_;clear cj;rintro e w1 ⟨rfl,hw⟩;obtain rfl:=hw.symm)
  | (go_at_call 45;refine cb.mono ?_;clear cb;rintro e w1 ⟨rfl,hw⟩;obtain rfl:=hw.symm)
  | (go_at_call 44;(try rw [e8]);with_reducible refine ck.mono ?_;clear ck;rintro e w1 ⟨rfl,hw⟩;obtain rfl:=hw.symm))
 go_step3
 refine ⟨rfl,?_⟩
 go_wp2
 rw [Exit.noGoto_ret]
 go_ret3
 exact ⟨rfl,rfl⟩
set_option maxRecDepth 20000 in
set_option maxHeartbeats 4000000 in
theorem cLenAt_form4 (v:Value) (L:Nat) (B:Nat→Nat) (lB:∀ j,B j<256) (w:World) (hv:BytesIn w v L B) (h0:0<L) (ht:B 0 / 64=2) (h2:4≤L) (h3:¬knI ((nbN B 0 4%1073741824:Nat):Int)=2):Calls Try.prog 53 #[v] w fun e w'=>e = .returned (.tuple #[.int .i64 0,.int .i64 0,.int .i64 21])∧w'=w:=by
 obtain ⟨bb,ob,cap,rfl,f0⟩:=at_first hv h0
 obtain ⟨xo,cx,x1,c1,-,-,e0,-,hsl,hv1,-,-⟩:=(BI.all hv).cut 4 (by omega)
 cases e0
 replace hsl:∀ W:World,(Instr.sliceAt 22 (.slice (some ⟨bb,ob,none⟩) L cap) none (some (.int .i64 4)) none).run Try.prog W = .ok (.slice x1 4 c1) W:=hsl
 have cj:=cJoin_any _ 4 B lB (by decide) w (hv1.of (Nat.le_refl _))
 have cb:Calls Try.prog 45 #[.int .i64 2] w fun e w'=>e = .returned (.int .i64 30)∧w'=w:=cBits_any 2 (by decide) w
 have hN:nbN B 0 4 / 1073741824=2:=by
  rw [nbN_four]
  try simp only [Nat.zero_add]
  have:=lB 0
  have:=lB 1
  have:=lB 2
  have:=lB 3
  omega
 obtain ⟨m,hm⟩:∃ m:Int,m=((nbN B 0 4%1073741824:Nat):Int):=⟨_,rfl⟩
 have ck:=cKind_any m w
 rw [←hm] at h3
 obtain ⟨z,hz⟩:∃ z:Int,z=((nbN B 0 4:Nat):Int):=⟨_,rfl⟩
 rw [←hz] at cj
 have e8:wrap64 (wrap64 z - 2147483648)=m:=by unfold wrap64;omega
 obtain ⟨q,hq⟩:∃ q:Int,q=((knI m:Nat):Int):=⟨_,rfl⟩
 rw [←hq] at ck
 have t7:¬q=2:=by omega
 clear hq
 obtain ⟨y,hy⟩:∃ y,y=B 0:=⟨_,rfl⟩
 rw [←hy] at ht f0
 have e1:(y:Int) / 64=2:=by omega
 have t0:¬(L:Int)=0:=by omega
 have t1:(0:Int)<(L:Int):=by omega
 have t3:¬(L:Int)<4:=by omega
 clear hv ht hy h2 hN hm hz hv1 h3
 go_enter Try.func53,Try.ntmps53
 go_wp2
 refine wp_scope_fwd 0 rfl ?_
 go_wp2_with (first
  | (go_at_call 50;refine cj.mono ?_;clear cj;rintro e w1 ⟨rfl,hw⟩;obtain rfl:=hw.symm)
  | (go_at_call 45;refine cb.mono ?_;clear cb;rintro e w1 ⟨rfl,hw⟩;obtain rfl:=hw.symm)
  | (go_at_call 44;(try rw [e8]);with_reducible refine ck.mono ?_;clear ck;rintro e w1 ⟨rfl,hw⟩;obtain rfl:=hw.symm))
 go_step3
 refine ⟨rfl,?_⟩
 go_wp2
 rw [Exit.noGoto_ret]
 go_ret3
 exact ⟨rfl,rfl⟩
theorem knI_eq (m k:Nat) (_hk:k<3):knI (m:Int)=k↔(if m<64 then 0 else if m<16384 then 1 else if m<1073741824 then 2 else 3)=k:=by
 unfold knI
 have e0:(m:Int) / 2 ^ 6=0↔m<64:=by show (m:Int) / 64=0↔_;omega
 have e1:(m:Int) / 2 ^ 14=0↔m<16384:=by show (m:Int) / 16384=0↔_;omega
 have e2:(m:Int) / 2 ^ 30=0↔m<1073741824:=by show (m:Int) / 1073741824=0↔_;omega
 simp only [e0,e1,e2]
theorem cLenAt_any (v:Value) (L:Nat) (B:Nat→Nat) (lB:∀ j,B j<256) (w:World) (hv:BytesIn w v L B):Calls Try.prog 53 #[v] w fun e w'=>e=ansL (lenD L B ⟨0,0⟩)∧w'=w:=by
 unfold lenD ansL
 rw [if_neg (fun h=>h rfl)]
 have hy:=lB 0
 by_cases h0:L=0
 · subst h0
   rw [if_pos rfl]
   exact cLenAt_empty v B w hv
 rw [if_neg h0]
 by_cases h3:B 0 / 64=3
 · rw [if_pos h3]
   exact cLenAt_three v L B w hv (by omega) h3
 rw [if_neg h3]
 simp only [Nat.sub_zero,Nat.zero_add]
 rcases (show B 0 / 64=0∨B 0 / 64=1∨B 0 / 64=2 by omega) with ht | ht | ht
 · rw [ht,show (2:Nat) ^ 0=1 from rfl,if_neg (by omega),if_neg (by omega)]
   exact cLenAt_good1 v L B lB w hv (by omega) ht (by omega) ((knI_eq _ 0 (by decide)).2 (if_pos (Nat.mod_lt _ (by decide))))
 · rw [ht,show (2:Nat) ^ 1=2 from rfl,show (2:Nat) ^ (8*2 - 2)=16384 from rfl]
   by_cases h2:L<2
   · rw [if_pos h2]
     exact cLenAt_end2 v L B w hv (by omega) ht h2
   rw [if_neg h2]
   have hm:=Nat.mod_lt (nbN B 0 2) (show 16384 > 0 by decide)
   by_cases h4:nbN B 0 2%16384<64
   · rw [if_pos (.inl ⟨rfl,h4⟩)]
     exact cLenAt_form2 v L B lB w hv (by omega) ht (by omega) (fun e=>by
      rw [knI_eq _ 1 (by decide),if_pos h4] at e
      exact absurd e (by decide))
   rw [if_neg (fun e=>e.elim (fun e=>h4 e.2) (fun e=>absurd e.1 (by decide)))]
   exact cLenAt_good2 v L B lB w hv (by omega) ht (by omega) ((knI_eq _ 1 (by decide)).2 (by rw [if_neg h4,if_pos hm]))
 · rw [ht,show (2:Nat) ^ 2=4 from rfl,show (2:Nat) ^ (8*4 - 2)=1073741824 from rfl]
   by_cases h2:L<4
   · rw [if_pos h2]
     exact cLenAt_end4 v L B w hv (by omega) ht h2
   rw [if_neg h2]
   have hm:=Nat.mod_lt (nbN B 0 4) (show 1073741824 > 0 by decide)
   by_cases h4:nbN B 0 4%1073741824<16384
   · rw [if_pos (.inr ⟨rfl,h4⟩)]
     exact cLenAt_form4 v L B lB w hv (by omega) ht (by omega) (fun e=>by
      rw [knI_eq _ 2 (by decide),if_pos h4] at e
      by_cases h5:nbN B 0 4%1073741824<64
      · rw [if_pos h5] at e;exact absurd e (by decide)
      · rw [if_neg h5] at e;exact absurd e (by decide))
   rw [if_neg (fun e=>e.elim (fun e=>absurd e.1 (by decide)) (fun e=>h4 e.2))]
   exact cLenAt_good4 v L B lB w hv (by omega) ht (by omega) ((knI_eq _ 2 (by decide)).2 (by rw [if_neg (show ¬nbN B 0 4%1073741824<64 by omega),if_neg h4,if_pos hm]))
end Go.Proofs.Ytibgjjbnehhanaa
namespace Go.Proofs.Ytibgjjbnehhanaa
open Go.RowKit
theorem BI.at0 {lo hi:Nat} {w:World} {v:Value} {n:Nat} {B:Nat→Nat} (h:BI lo hi w v n B) {g:Nat} {u:Value} (hc:w.cell? ⟨g,0,none⟩=some u) {m:Nat} {C:Nat→Nat} (hu:BI lo hi w u m C) (y:Value):BI lo hi (w.setCell ⟨g,0,none⟩ y) v n B:=by
 refine h.put hc (fun z e => ?_) y
 rcases hu with ⟨xo,rfl,_⟩ | ⟨bb,ob,cap,rfl,_⟩
 · cases e
 · cases e
set_option maxRecDepth 20000 in
set_option maxHeartbeats 2000000 in
theorem cPass_any (lo hi g L:Nat) (B:Nat→Nat) (r:Rd) (n:Nat) (hn:r.at_+n≤L) (w:World) (h:RdC lo hi w g L B r):Calls Try.prog 51 #[.pointer (some ⟨g,0,none⟩),.int .i64 (n:Int)] w fun e w'=>∃ v,e = .returned v∧BI lo hi w' v n (fun j=>B (r.at_+j))∧RdC lo hi w' g L B ⟨r.at_+n,r.e⟩∧Out g 0 2 w w':=by
 obtain ⟨v,⟨c0,z0⟩,-,-,hv⟩:=h.cells
 obtain ⟨xo,cx,x1,c1,x2,c2,rfl,-,hs1,hv1,hs2,hv2⟩:=hv.cut n (by omega)
 have e1:L - r.at_ - n=L - (r.at_+n):=by omega
 rw [e1] at hs2 hv2
 have hv2':BI lo hi w (.slice x2 (L - (r.at_+n)) c2) (L - (r.at_+n)) (fun j=>B (r.at_+n+j)):=hv2.cong fun j _=>by
  show B (r.at_+(n+j))=_
  rw [Nat.add_assoc]
 have H2:=Hid.mk' (h.setR (r.at_+n) hn x2 c2 hv2')
 have H1:=Hid.mk' (hv1.at0 c0 hv (.slice x2 (L - (r.at_+n)) c2))
 obtain ⟨q,hq⟩:∃ q,q=L - (r.at_+n):=⟨_,rfl⟩
 rw [←hq] at hs2 H1 H2
 obtain ⟨p,hp⟩:∃ p,p=L - r.at_:=⟨_,rfl⟩
 rw [←hp] at hs1 hs2 c0
 clear h hv hv1 hv2 hv2' e1 hp hq
 go_enter Try.func51,Try.ntmps51
 go_wp2
 go_ret
 exact ⟨_,rfl,H1.out,H2.out,Out.setCell _ _ (by decide) (by decide)⟩
end Go.Proofs.Ytibgjjbnehhanaa
namespace Go.Proofs.Ytibgjjbnehhanaa
open Go.RowKit
theorem RdC.size {lo hi:Nat} {w:World} {g L:Nat} {B:Nat→Nat} {r:Rd} (h:RdC lo hi w g L B r):hi≤w.heap.size:=h.choose_spec.2.2.2.2
def lenA (L:Nat) (B:Nat→Nat) (a:Nat):Nat × Rd:=lenD (L - a) (fun j=>B (a+j)) ⟨0,0⟩
theorem lenA_eq {L:Nat} {B:Nat→Nat} {r:Rd} (ha:r.at_≤L) (he:r.e=0):lenD L B r=((lenA L B r.at_).1,⟨r.at_+(lenA L B r.at_).2.at_,(lenA L B r.at_).2.e⟩):=by
 have:=lenD_shift L B r.at_ ha
 rw [show (⟨r.at_,0⟩:Rd)=r by rw [←he]] at this
 exact this
theorem lenA_le (L:Nat) (B:Nat→Nat) (a:Nat):(lenA L B a).2.at_≤L - a∧((lenA L B a).2.e≠0→(lenA L B a).1=0∧(lenA L B a).2.at_=0):=by
 unfold lenA lenD
 rw [if_neg (fun h=>h rfl)]
 split
 · exact ⟨Nat.zero_le _,fun _=>⟨rfl,rfl⟩⟩
 · split
   · exact ⟨Nat.zero_le _,fun _=>⟨rfl,rfl⟩⟩
   · split
     · exact ⟨Nat.zero_le _,fun _=>⟨rfl,rfl⟩⟩
     · split
       · exact ⟨Nat.zero_le _,fun _=>⟨rfl,rfl⟩⟩
       · rename_i h _
         refine ⟨?_,fun e=>absurd rfl e⟩
         show 0+_≤_
         rw [Nat.sub_zero] at h
         omega
set_option maxRecDepth 20000 in
set_option maxHeartbeats 2000000 in
theorem cVecR_err (lo hi g L:Nat) (B:Nat→Nat) (r:Rd) (he:r.e≠0) (w:World) (h:RdC lo hi w g L B r):Calls Try.prog 28 #[.pointer (some ⟨g,0,none⟩)] w fun e w'=>e = .returned (.slice none 0 0)∧w'=w:=by
 have c:=cReads_any lo hi g L B r w h
 rw [decide_eq_false he] at c
 clear h
 go_enter Try.func28,Try.ntmps28
 go_wp2
 refine wp_scope_fwd 0 rfl ?_
 go_wp2_with (go_at_call 49;refine c.mono ?_;clear c;rintro e w1 ⟨rfl,hw⟩;obtain rfl:=hw.symm)
 rw [jump_ret]
 go_ret
 exact ⟨rfl,rfl⟩
set_option maxRecDepth 20000 in
set_option maxHeartbeats 2000000 in
theorem cVecR_bad (lo hi g L:Nat) (B:Nat→Nat) (lB:∀ j,B j<256) (r:Rd) (he:r.e=0) (hb:(lenA L B r.at_).2.e≠0) (w:World) (h:RdC lo hi w g L B r):Calls Try.prog 28 #[.pointer (some ⟨g,0,none⟩)] w fun e w'=>e = .returned (.slice none 0 0)∧RdC lo hi w' g L B ⟨r.at_,(lenA L B r.at_).2.e⟩∧Out g 0 2 w w':=by
 have c:=cReads_any lo hi g L B r w h
 rw [decide_eq_true he] at c
 obtain ⟨v,⟨c0,-⟩,⟨c1,z1⟩,-,hv⟩:=h.cells
 have cl:=cLenAt_any _ _ _ (fun j=>lB (r.at_+j)) w (hv.of h.size)
 obtain ⟨xo,cx,-,-,-,-,rfl,-,-,-,-,-⟩:=hv.cut 0 (Nat.zero_le _)
 have Hh:=Hid.mk' h
 have ha:=h.le
 rw [he] at c1
 replace cl:Calls Try.prog 53 #[.slice xo (L - r.at_) cx] w fun e w'=>e=ansL (lenA L B r.at_)∧w'=w:=cl
 rw [show ansL (lenA L B r.at_) = .returned (.tuple #[.int .i64 0,.int .i64 0,.int .i64 (lenA L B r.at_).2.e]) by unfold ansL;rw [((lenA_le L B r.at_).2 hb).1,((lenA_le L B r.at_).2 hb).2];rfl] at cl
 generalize (lenA L B r.at_).2.e=er at *
 generalize L - r.at_=p at *
 clear h hv ha
 go_enter Try.func28,Try.ntmps28
 go_wp2
 refine wp_scope_fwd 0 rfl ?_
 go_wp2_with (first
  | (go_at_call 49;refine c.mono ?_;clear c;rintro e w1 ⟨rfl,hw⟩;obtain rfl:=hw.symm)
  | (go_at_call 53;refine cl.mono ?_;clear cl;rintro e w1 ⟨rfl,hw⟩;obtain rfl:=hw.symm))
 go_step3
 refine ⟨rfl,?_⟩
 go_wp2
 rw [Exit.noGoto_ret]
 go_ret
 exact ⟨rfl,Hh.out.setE er,Out.setCell _ _ (by decide) (by decide)⟩
end Go.Proofs.Ytibgjjbnehhanaa
namespace Go.Proofs.Ytibgjjbnehhanaa
open Go.RowKit
set_option maxRecDepth 20000 in
set_option maxHeartbeats 2000000 in
theorem cVecR_form (lo hi g L:Nat) (B:Nat→Nat) (lB:∀ j,B j<256) (r:Rd) (_hL:L<140737488355000) (he:r.e=0) (hb:(lenA L B r.at_).2.e=0) (hn:65536<(lenA L B r.at_).1) (w:World) (h:RdC lo hi w g L B r):Calls Try.prog 28 #[.pointer (some ⟨g,0,none⟩)] w fun e w'=>e = .returned (.slice none 0 0)∧RdC lo hi w' g L B ⟨r.at_,21⟩∧Out g 0 2 w w':=by
 have c:=cReads_any lo hi g L B r w h
 rw [decide_eq_true he] at c
 obtain ⟨v,⟨c0,-⟩,⟨c1,z1⟩,-,hv⟩:=h.cells
 have cl:=cLenAt_any _ _ _ (fun j=>lB (r.at_+j)) w (hv.of h.size)
 obtain ⟨xo,cx,-,-,-,-,rfl,-,-,-,-,-⟩:=hv.cut 0 (Nat.zero_le _)
 have Hh:=Hid.mk' h
 have ha:=h.le
 have hle:=(lenA_le L B r.at_).1
 replace cl:Calls Try.prog 53 #[.slice xo (L - r.at_) cx] w fun e w'=>e=ansL (lenA L B r.at_)∧w'=w:=cl
 unfold ansL at cl
 rw [hb] at cl
 generalize (lenA L B r.at_).2.at_=sz at *
 generalize (lenA L B r.at_).1=n at *
 rw [he] at c1
 obtain ⟨z,hz⟩:∃ z:Int,z=(n:Int):=⟨_,rfl⟩
 rw [←hz] at cl
 have t1:(65536:Int)<z:=by omega
 clear hle hn hz
 generalize L - r.at_=p at *
 clear h hv ha hb
 go_enter Try.func28,Try.ntmps28
 go_wp2
 refine wp_scope_fwd 0 rfl ?_
 go_wp2_with (first
  | (go_at_call 49;refine c.mono ?_;clear c;rintro e w1 ⟨rfl,hw⟩;obtain rfl:=hw.symm)
  | (go_at_call 53;refine cl.mono ?_;clear cl;rintro e w1 ⟨rfl,hw⟩;obtain rfl:=hw.symm))
 go_step3
 refine ⟨rfl,?_⟩
 go_wp2
 rw [Exit.noGoto_ret]
 go_ret
 exact ⟨rfl,Hh.out.setE 21,Out.setCell _ _ (by decide) (by decide)⟩
set_option maxRecDepth 20000 in
set_option maxHeartbeats 2000000 in
theorem cVecR_end (lo hi g L:Nat) (B:Nat→Nat) (lB:∀ j,B j<256) (r:Rd) (_hL:L<140737488355000) (he:r.e=0) (hb:(lenA L B r.at_).2.e=0) (hn:¬65536<(lenA L B r.at_).1) (hq:L<r.at_+(lenA L B r.at_).2.at_+(lenA L B r.at_).1) (w:World) (h:RdC lo hi w g L B r):Calls Try.prog 28 #[.pointer (some ⟨g,0,none⟩)] w fun e w'=>e = .returned (.slice none 0 0)∧RdC lo hi w' g L B ⟨r.at_,20⟩∧Out g 0 2 w w':=by
 have c:=cReads_any lo hi g L B r w h
 rw [decide_eq_true he] at c
 obtain ⟨v,⟨c0,-⟩,⟨c1,z1⟩,-,hv⟩:=h.cells
 have cl:=cLenAt_any _ _ _ (fun j=>lB (r.at_+j)) w (hv.of h.size)
 obtain ⟨xo,cx,-,-,-,-,rfl,-,-,-,-,-⟩:=hv.cut 0 (Nat.zero_le _)
 have Hh:=Hid.mk' h
 have ha:=h.le
 have hle:=(lenA_le L B r.at_).1
 replace cl:Calls Try.prog 53 #[.slice xo (L - r.at_) cx] w fun e w'=>e=ansL (lenA L B r.at_)∧w'=w:=cl
 unfold ansL at cl
 rw [hb] at cl
 generalize (lenA L B r.at_).2.at_=sz at *
 generalize (lenA L B r.at_).1=n at *
 rw [he] at c1
 obtain ⟨z,hz⟩:∃ z:Int,z=(n:Int):=⟨_,rfl⟩
 rw [←hz] at cl
 obtain ⟨p,hp⟩:∃ p,p=L - r.at_:=⟨_,rfl⟩
 rw [←hp] at cl c0
 have t1:¬(65536:Int)<z:=by omega
 have t3:(p:Int) - (sz:Int)<z:=by omega
 have t4:wrap64 ((p:Int) - (sz:Int))<z:=by unfold wrap64;omega
 clear hle hn hz hp hq
 clear h hv ha hb
 go_enter Try.func28,Try.ntmps28
 go_wp2
 refine wp_scope_fwd 0 rfl ?_
 go_wp2_with (first
  | (go_at_call 49;refine c.mono ?_;clear c;rintro e w1 ⟨rfl,hw⟩;obtain rfl:=hw.symm)
  | (go_at_call 53;refine cl.mono ?_;clear cl;rintro e w1 ⟨rfl,hw⟩;obtain rfl:=hw.symm))
 go_step3
 refine ⟨rfl,?_⟩
 go_wp2
 rw [Exit.noGoto_ret]
 go_ret
 exact ⟨rfl,Hh.out.setE 20,Out.setCell _ _ (by decide) (by decide)⟩
set_option maxRecDepth 20000 in
set_option maxHeartbeats 2000000 in
theorem cVecR_good (lo hi g L:Nat) (B:Nat→Nat) (lB:∀ j,B j<256) (r:Rd) (hL:L<140737488355000) (he:r.e=0) (hb:(lenA L B r.at_).2.e=0) (hn:¬65536<(lenA L B r.at_).1) (hq:r.at_+(lenA L B r.at_).2.at_+(lenA L B r.at_).1≤L) (w:World) (h:RdC lo hi w g L B r):Calls Try.prog 28 #[.pointer (some ⟨g,0,none⟩)] w fun e w'=>∃ v,e = .returned v∧Own w.heap.size w' v (lenA L B r.at_).1 (fun j=>B (r.at_+(lenA L B r.at_).2.at_+j))∧RdC lo hi w' g L B ⟨r.at_+(lenA L B r.at_).2.at_+(lenA L B r.at_).1,0⟩∧Out g 0 2 w w':=by
 have c:=cReads_any lo hi g L B r w h
 rw [decide_eq_true he] at c
 obtain ⟨v,⟨c0,-⟩,⟨c1,z1⟩,-,hv⟩:=h.cells
 have cl:=cLenAt_any _ _ _ (fun j=>lB (r.at_+j)) w (hv.of h.size)
 obtain ⟨xo,cx,-,-,-,-,rfl,-,-,-,-,-⟩:=hv.cut 0 (Nat.zero_le _)
 have Hh:=Hid.mk' h
 have ha:=h.le
 have hle:=(lenA_le L B r.at_).1
 replace cl:Calls Try.prog 53 #[.slice xo (L - r.at_) cx] w fun e w'=>e=ansL (lenA L B r.at_)∧w'=w:=cl
 unfold ansL at cl
 rw [hb] at cl
 generalize (lenA L B r.at_).2.at_=sz at *
 generalize (lenA L B r.at_).1=n at *
 rw [he] at c1
 have cp:=cPass_any lo hi g L B r sz (by omega) w h
 rw [he] at cp
 have cq:=fun w2 h2=>cPass_any lo hi g L B ⟨r.at_+sz,0⟩ n hq w2 h2
 have gl:=h.lt
 have hn':n<140737488355000:=by omega
 obtain ⟨p,hp⟩:∃ p,p=L - r.at_:=⟨_,rfl⟩
 rw [←hp] at cl c0
 obtain ⟨z,hz⟩:∃ z:Int,z=(n:Int):=⟨_,rfl⟩
 rw [←hz] at cl cq
 have t1:¬(65536:Int)<z:=by omega
 have t3:¬(p:Int) - (sz:Int)<z:=by omega
 have t4:¬wrap64 ((p:Int) - (sz:Int))<z:=by unfold wrap64;omega
 clear hle hn hp hq hz
 clear h hv ha hb c1 z1 Hh
 go_enter Try.func28,Try.ntmps28
 go_wp2
 refine wp_scope_fwd 0 rfl ?_
 go_wp2_with (first
  | (go_at_call 49;refine c.mono ?_;clear c;rintro e w1 ⟨rfl,hw⟩;obtain rfl:=hw.symm)
  | (go_at_call 53;refine cl.mono ?_;clear cl;rintro e w1 ⟨rfl,hw⟩;obtain rfl:=hw.symm)
  | (go_at_call 51;refine cp.mono ?_;clear cp;rintro e w2 ⟨v2,rfl,-,hr2,o2⟩;(have cq2:=cq w2 hr2);clear cq)
  | (go_at_call 51;refine cq2.mono ?_;clear cq2;rintro e w3 ⟨v3,rfl,hv3,hr3,o3⟩;(have cc:=cClone_any v3 n _ hn' w3 (hv3.of hr3.size)))
  | (go_at_call 48;refine cc.mono ?_;clear cc;rintro e w4 ⟨u4,rfl,own4,b4⟩))
 rw [jump_ret]
 go_ret
 have o:=o2.trans o3
 exact ⟨_,rfl,World.ownsRow.mono own4 o.size,hr3.still b4,o.trans (Out.of_below b4 (Nat.lt_of_lt_of_le gl o.size))⟩
theorem cVecR_any (lo hi g L:Nat) (B:Nat→Nat) (lB:∀ j,B j<256) (r:Rd) (hL:L<140737488355000) (w:World) (h:RdC lo hi w g L B r):Calls Try.prog 28 #[.pointer (some ⟨g,0,none⟩)] w fun e w'=>∃ v,e = .returned v∧Own w.heap.size w' v (vecD L B r).1 (fun j=>B ((lenD L B r).2.at_+j))∧RdC lo hi w' g L B (vecD L B r).2∧Out g 0 2 w w':=by
 have ha:=h.le
 unfold vecD
 by_cases he:r.e≠0
 · have e0:lenD L B r=(0,r):=by unfold lenD;rw [if_pos he]
   have e1:takD L ((0:Nat):Int) r=(0,r):=by unfold takD;rw [if_pos he]
   simp only [e0,if_neg (fun (e:r.e=0∧65536<0)=>he e.1),e1,if_pos he]
   exact (cVecR_err lo hi g L B r he w h).mono fun e w' ⟨h1,h2⟩=>⟨_,h1,Own.nil _ _ _,by rw [h2];exact h,by rw [h2];exact Out.refl _ _ _ _⟩
 replace he:r.e=0:=Decidable.not_not.mp he
 rw [lenA_eq ha he]
 dsimp only
 by_cases hb:(lenA L B r.at_).2.e=0
 · by_cases hn:65536<(lenA L B r.at_).1
   · have e1:takD L (((lenA L B r.at_).1:Nat):Int) ⟨r.at_+(lenA L B r.at_).2.at_,21⟩=(0,⟨r.at_+(lenA L B r.at_).2.at_,21⟩):=by unfold takD;exact if_pos (fun e=>by cases e)
     rw [if_pos (show (lenA L B r.at_).2.e=0∧65536<(lenA L B r.at_).1 from ⟨hb,hn⟩),e1,if_pos (show (21:Int)≠0 by decide)]
     exact (cVecR_form lo hi g L B lB r hL he hb hn w h).mono fun e w' ⟨h1,h2,h3⟩=>⟨_,h1,Own.nil _ _ _,h2,h3⟩
   rw [if_neg (fun (e:(lenA L B r.at_).2.e=0∧65536<(lenA L B r.at_).1)=>hn e.2),hb]
   by_cases hq:L<r.at_+(lenA L B r.at_).2.at_+(lenA L B r.at_).1
   · have e1:takD L (((lenA L B r.at_).1:Nat):Int) ⟨r.at_+(lenA L B r.at_).2.at_,0⟩=(0,⟨r.at_+(lenA L B r.at_).2.at_,20⟩):=by
      unfold takD
      rw [if_neg (fun e=>e rfl),if_neg (by omega),if_pos (by show (L:Int) - ((r.at_+(lenA L B r.at_).2.at_:Nat):Int)<_;omega)]
     rw [e1,if_pos (show (20:Int)≠0 by decide)]
     exact (cVecR_end lo hi g L B lB r hL he hb hn hq w h).mono fun e w' ⟨h1,h2,h3⟩=>⟨_,h1,Own.nil _ _ _,h2,h3⟩
   · have e1:takD L (((lenA L B r.at_).1:Nat):Int) ⟨r.at_+(lenA L B r.at_).2.at_,0⟩=((lenA L B r.at_).1,⟨r.at_+(lenA L B r.at_).2.at_+(lenA L B r.at_).1,0⟩):=by
      unfold takD
      rw [if_neg (fun e=>e rfl),if_neg (by omega),if_neg (by show ¬(L:Int) - ((r.at_+(lenA L B r.at_).2.at_:Nat):Int)<_;omega),Int.toNat_natCast]
     rw [e1,if_neg (show ¬(0:Int)≠0 from fun e=>e rfl)]
     exact cVecR_good lo hi g L B lB r hL he hb hn (by omega) w h
 · have hz:=(lenA_le L B r.at_).2 hb
   have e1:takD L (((lenA L B r.at_).1:Nat):Int) ⟨r.at_+(lenA L B r.at_).2.at_,(lenA L B r.at_).2.e⟩=(0,⟨r.at_+(lenA L B r.at_).2.at_,(lenA L B r.at_).2.e⟩):=by unfold takD;rw [if_pos hb]
   rw [if_neg (fun (e:(lenA L B r.at_).2.e=0∧65536<(lenA L B r.at_).1)=>hb e.1),e1,if_pos hb]
   exact (cVecR_bad lo hi g L B lB r he hb w h).mono fun e w' ⟨h1,h2,h3⟩=>⟨_,h1,Own.nil _ _ _,h2,h3⟩
end Go.Proofs.Ytibgjjbnehhanaa
namespace Go.Proofs.Ytibgjjbnehhanaa
open Go.RowKit
theorem run_append_zeros_nil (w:World) (ty:TypeId) (m:Nat) (h0:0<m) (hm:m≤1000000) :
 (Builtin.append_ #[22,3] ty #[.slice none 0 0,.int .i64 m]).run Try.prog w =
  .ok (.slice (some ⟨w.heap.size,0,none⟩) m (grownCap w m 0 5)) (w.drew.alloc (.cells ((ints .u8 m (fun _=>0)).toArray ++ Builtin.zeroCells #[.int .u8 0] (grownCap w m 0 5 - m)) 5)):=by
 obtain ⟨i,hi,hz,hz1,hz2⟩:=info_parts Try.info5
 have h63':¬ (9223372036854775807<(m:Int)):=by omega
 have hw:IntKind.i64.wrap (m:Int)=m:=by simp only [IntKind.wrap_i64];omega
 have hl0:¬((m:Int)<0):=by omega
 have h48:¬ (281474976710656<(m:Int)):=by omega
 have hm0:¬(m=0):=by omega
 have hai:∀ W,Sem.run Try.prog (asInt (.int .i64 (m:Int))) W = .ok (m:Int) W:=fun _=>rfl
 have hc:(Value.int IntKind.u8 0).cells=#[.int .u8 0]:=rfl
 have hu:=run_underlying (P:=Try.prog) Try.underlying22
 have hu2:=run_underlying (P:=Try.prog) Try.underlying3
 have hns:¬ (281474976710656<Builtin.nextslicecap m 0):=by rw [nextslicecap_zero h0];omega
 simp [Builtin.append_,hu,hu2,sizeOf,typeInfo,zeroValue,hi,hz,hai,hw,hl0,h48,hz1,hz2,h63',Question.forced,run_firstCells_none,newRow,grownCap,hc,hm0,hns]
 rw [zeroCells_u8 m]
theorem append_zeros0 (w:World) (ty:TypeId) (m:Nat) (h0:0<m) (hm:m≤1000000) :
 ∃ g cap w',(Builtin.append_ #[22,3] ty #[.slice none 0 0,.int .i64 m]).run Try.prog w = .ok (.slice (some ⟨g,0,none⟩) m cap) w'∧m≤cap∧Own w.heap.size w' (.slice (some ⟨g,0,none⟩) 0 cap) 0 (fun _=>0)∧Below w.heap.size w w':=by
 have hge:=grownCap_ge w m 0 5
 have hcm:=grownCap_le_maxLen w m 0 5 (by unfold maxLen;omega)
 refine ⟨_,_,_,run_append_zeros_nil w ty m h0 hm,hge,⟨rfl,.inr ⟨w.heap.size,_,_,rfl,Nat.le_refl _,heap_alloc_new w.drew _,Nat.zero_le _,hcm,?_,rfl⟩⟩,((Below.refl _ _).drew).alloc (Nat.le_refl _) _⟩
 simp only [Array.size_append,List.size_toArray,size_zeroCells,ints_len]
 simp
 omega
theorem wpList_append_zeros0 {w:World} {ops:Array Oper} {rest:List Oper} {o:Oper} {a:Act} {Q:Exit→Act→World→Prop} (hgd:o.guard=none) (s x:Operand)
 (ho:o.op = .call { callee := .builtin .append,args:=#[s,x],argTypes:=#[22,3] }) (hs:a.eval s = .slice none 0 0) (m:Nat) (hx:a.eval x = .int .i64 m) (h0:0<m) (hm:m≤1000000)
 (h:∀ g cap w',m≤cap→Own w.heap.size w' (.slice (some ⟨g,0,none⟩) 0 cap) 0 (fun _=>0)→Below w.heap.size w w'→wpList Try.prog ops Q rest (a.put o.dst (.slice (some ⟨g,0,none⟩) m cap)) w'):wpList Try.prog ops Q (o :: rest) a w:=by
 refine wpList_plain hgd fun K hK => ?_
 obtain ⟨g,cap,w',h1,h2,h3,h4⟩:=append_zeros0 w o.type m h0 hm
 unfold Oper.wp execOp
 simp only [ho,resolve,invoke,builtin,Sem.run_bind,Sem.run_pure,Result.andThen_ok,List.map_toArray,List.map_cons,List.map_nil,hs,hx,h1]
 exact hK _ _ (h g cap w' h2 h3 h4)
set_option maxRecDepth 20000 in
set_option maxHeartbeats 4000000 in
theorem grow_any (m:Nat) (h0:0<m) (hm:m≤1000000) (w:World) :
 Calls Try.prog 54 #[.slice none 0 0,.int .i64 m] w fun e w'=>∃ g cap,e = .returned (.slice (some ⟨g,0,none⟩) 0 cap)∧Own w.heap.size w' (.slice (some ⟨g,0,none⟩) 0 cap) 0 (fun _=>0)∧Below w.heap.size w w':=by
 have e1:¬((m:Int)<0):=by omega
 have e2:(0:Int)<(m:Int):=by omega
 have e3:IntKind.i64.wrap ((m:Int) - 0)=(m:Int):=by simp only [IntKind.wrap_i64];omega
 have e4:IntKind.i64.wrap (m:Int)=(m:Int):=by simp only [IntKind.wrap_i64];omega
 go_enter Try.func54,Try.ntmps54
 go_wp2_with (at_builtin;refine wpList_append_zeros0 rfl (.tmp 20) (.tmp 21) rfl rfl m rfl h0 hm ?_;intro g cap w1 hcap own hb)
 go_ret
 exact ⟨g,cap,rfl,own,hb⟩
end Go.Proofs.Ytibgjjbnehhanaa
namespace Go.Proofs.Ytibgjjbnehhanaa
open Go.RowKit
def Parts (w:World) (gp cnt m:Nat) (t:Nat→Nat):Prop:=∃ (pvs:Nat→Value) (L:Nat→Nat),L 0=0∧L cnt=m∧∀ i,i<cnt→w.cell? ⟨gp,i,none⟩=some (pvs i)∧L i≤L (i+1)∧L (i+1)≤m∧BytesIn w (pvs i) (L (i+1) - L i) (fun j=>t (L i+j))
set_option maxRecDepth 20000 in
set_option maxHeartbeats 8000000 in
theorem concat_parts (gp cnt m:Nat) (t:Nat→Nat) (w:World) (hP:Parts w gp cnt m t) (hcnt:cnt≤1000) (hsum:m≤1000000) (h0:0<m) :
 Calls Try.prog 46 #[.slice (some ⟨gp,0,none⟩) cnt cnt] w fun e w'=>∃ s,e = .returned s∧Own w.heap.size w' s m t∧Below w.heap.size w w':=by
 obtain ⟨pvs,L,p0,p1,p2⟩:=hP
 have P2:=Hid.mk' p2
 clear p2
 have hg:=grow_any m h0 hsum w
 go_enter Try.func46,Try.ntmps46
 go_wp2
 go_loopw [3,11] (fun s i wr=>∃ q T:Nat,q≤cnt∧i = .int .i64 q∧Hid (T=L q)∧s = .int .i64 T∧w=wr) (fun _ i _=>cnt - (intOf i).toNat)
 case atStart=>exact ⟨0,0,Nat.zero_le _,rfl,Hid.mk' p0.symm,rfl,rfl⟩
 case round =>
  obtain ⟨q,T,hq,rfl,HT,rfl,rfl⟩:=hrel
  by_cases hlt:q<cnt
  · obtain ⟨c1,c2,c3,c4⟩:=P2.out q hlt
    obtain ⟨xp,cp,hpv,hxn,hncp,hsrc⟩:=c4.src
    obtain ⟨n,hn⟩:∃ n,n=L (q+1) - L q:=⟨_,rfl⟩
    have hTn:T+n=L (q+1):=by have:=HT.out;omega
    have hTm:T+n≤1000000:=by omega
    have r0:w.cell? ⟨gp,q,none⟩=some (.slice xp n cp):=by rw [c1,hpv,hn]
    have hqi:(0:Int)≤(q:Int)∧(q:Int)<cnt:=by omega
    have hd:decide ((q:Int)<(cnt:Int))=true:=decide_eq_true (by omega)
    have ew:IntKind.i64.wrap ((T:Int)+(n:Int))=(T:Int)+n:=by simp only [IntKind.wrap_i64];omega
    have en:¬((T:Int)+(n:Int)<0):=by omega
    have HN:Hid (T+n=L (q+1)):=hTn
    clear hn hTn c1 c2 c3 c4 hpv hsrc hg p0 p1
    go_wp2
    go_roundw
    case rel=>exact ⟨q+1,T+n,by omega,by go_num,Hid.mk' HN.out,by simp,by first | rfl | trivial⟩
    case measure=>simp [intOf];omega
  · have hqe:q=cnt:=by omega
    subst hqe
    have hTm:T=m:=by rw [HT.out,p1]
    subst hTm
    go_wp2_with (go_at_call 54;refine hg.mono ?_;clear hg;rintro e w1 ⟨g1,cap1,rfl,own1,hb1⟩)
    have hd0:decide ((q:Int)<(q:Int))=false:=decide_eq_false (by omega)
    try rw [hd0]
    clear hd0 hlt HT
    go_loopw [6,27] (fun ns i wr=>∃ r A:Nat,r≤q∧i = .int .i64 r∧Hid (A=L r)∧Own w.heap.size wr ns A t∧Below w.heap.size w wr) (fun _ i _=>q - (intOf i).toNat)
    case atStart=>exact ⟨0,0,Nat.zero_le _,rfl,Hid.mk' p0.symm,own1.congr (fun j hj=>absurd hj (Nat.not_lt_zero j)),hb1⟩
    case round =>
     clear own1 hb1
     obtain ⟨r,A,hr,rfl,HA,own,hbw⟩:=hrel
     by_cases hlt:r<q
     · obtain ⟨c1,c2,c3,c4⟩:=P2.out r hlt
       obtain ⟨xp,cp,hpv,hxn,hncp,hsrc⟩:=c4.src
       obtain ⟨n,hn⟩:∃ n,n=L (r+1) - L r:=⟨_,rfl⟩
       have hTn:A+n=L (r+1):=by have:=HA.out;omega
       have hTm:A+n≤1000000:=by omega
       have r0:wr.cell? ⟨gp,r,none⟩=some (.slice xp n cp):=by rw [hbw.cell (p:=⟨gp,r,none⟩) (block_lt_of_cell c1),c1,hpv,hn]
       have hcg:∀ z,z<A+n→cat A t (fun j=>t (L r+j)) z=t z:=fun z hz=>by
        have:=HA.out
        unfold cat
        by_cases e:z<A
        · rw [if_pos e]
        · rw [if_neg e]
          show t (L r+(z - A))=t z
          rw [show L r+(z - A)=z by omega]
       have src:=hsrc wr hbw
       rw [←hn] at src
       obtain ⟨Y,hY⟩:∃ Y:Nat→Nat,Y=fun j=>t (L r+j):=⟨_,rfl⟩
       rw [←hY] at src hcg
       have hqi:(0:Int)≤(r:Int)∧(r:Int)<q:=by omega
       have hd:decide ((r:Int)<(q:Int))=true:=decide_eq_true (by omega)
       have hsz:=hbw.size
       have HN:Hid (A+n=L (r+1)):=hTn
       clear hn hTn c1 c2 c3 c4 hpv hsrc p0 p1 hY
       go_wp2_with (at_builtin;refine wpList_append_bytes rfl (.tmp 31) (.tmp 32) rfl w.heap.size u6 A t rfl own xp n cp Y rfl src hxn (by omega) hsz ?_;intro v6 w6 own6 grow6;(have hb6:Below w.heap.size w w6:=Own.grown hbw grow6 own (Nat.le_refl _) hsz))
       go_roundw
       case rel=>exact ⟨r+1,A+n,by omega,by go_num,Hid.mk' HN.out,own6.congr hcg,hb6⟩
       case measure=>simp [intOf];omega
     · have hqe:r=q:=by omega
       subst hqe
       have hA:=HA.out
       rw [p1] at hA
       go_wp2
       go_ret
       exact ⟨_,rfl,by rw [←hA];exact own,hbw⟩
theorem BytesIn.cong {w:World} {v:Value} {n:Nat} {a b:Nat→Nat} (h:BytesIn w v n a) (e:∀ j,j<n→a j=b j):BytesIn w v n b:=by
 rcases h with h | ⟨bb,ob,cap,rfl,h1,h2,h3⟩
 · exact .inl h
 · exact .inr ⟨bb,ob,cap,rfl,h1,h2,fun j hj=>by rw [h3 j hj,e j hj]⟩
theorem parts_two (w:World) (v u:Value) (n m:Nat) (t s:Nat→Nat) (ty:TypeId) (h1:BytesIn w v n t) (h2:BytesIn w u m s):Parts (w.alloc (.cells #[v,u] ty)) w.heap.size 2 (n+m) (cat n t s):=by
 have b:=(Below.refl _ w).alloc (Nat.le_refl _) (.cells #[v,u] ty)
 refine ⟨fun i=>if i=0 then v else u,fun i=>if i=0 then 0 else if i=1 then n else n+m,rfl,rfl,fun i hi => ?_⟩
 rcases (show i=0∨i=1 by omega) with rfl | rfl
 · refine ⟨by simp,Nat.zero_le _,Nat.le_add_right _ _,?_⟩
   show BytesIn _ v (n - 0) (fun j=>cat n t s (0+j))
   rw [Nat.sub_zero]
   exact (h1.keep b).cong fun j hj=>by rw [Nat.zero_add,cat_left hj]
 · refine ⟨by simp,Nat.le_add_right _ _,Nat.le_refl _,?_⟩
   show BytesIn _ u (n+m - n) (fun j=>cat n t s (n+j))
   rw [Nat.add_sub_cancel_left]
   exact (h2.keep b).cong fun j hj=>by rw [cat_right]
theorem cVec11_size (v:Value) (n:Nat) (b:Nat→Nat) (hn:65536<n) (w:World) (hv:BytesIn w v n b):Calls Try.prog 15 #[v] w fun e w'=>e = .returned (.tuple #[.slice none 0 0,.int .i64 6])∧Below w.heap.size w w':=by
 obtain ⟨x1,c1,rfl,-,-,-⟩:=hv.src
 clear hv
 have t1:(65536:Int)<(n:Int):=by omega
 clear hn
 go_enter Try.func15,Try.ntmps15
 go_wp2
 go_ret2
 exact ⟨rfl,Below.refl _ _⟩
set_option maxRecDepth 20000 in
set_option maxHeartbeats 4000000 in
theorem cVec11_good (v:Value) (n:Nat) (b:Nat→Nat) (hn:n≤65536) (w:World) (hv:BytesIn w v n b):Calls Try.prog 15 #[v] w fun e w'=>∃ s,e = .returned (.tuple #[s,.int .i64 0])∧Own w.heap.size w' s (vcL n) (vcB n b)∧Below w.heap.size w w':=by
 have HV:=Hid.mk' hv
 obtain ⟨x1,c1,rfl,-,-,-⟩:=hv.src
 clear hv
 have cl:=cLen11_good n (by omega) w
 have hs:=lnS_pos n
 obtain ⟨z,hz⟩:∃ z:Int,z=(n:Int):=⟨_,rfl⟩
 have t1:¬(65536:Int)<(n:Int):=by omega
 have hL:vcL n≤1000000:=by unfold vcL;omega
 have h0:0<vcL n:=by unfold vcL;omega
 clear hn hz hs
 go_enter Try.func15,Try.ntmps15
 go_wp2_with (first
  | (go_at_call 13;refine cl.mono ?_;clear cl;rintro e w1 ⟨h1,rfl,hh1,b1⟩;(obtain ⟨x2,c2,e2,-,-,-⟩:=hh1.src);subst e2;(have hP:=parts_two w1 _ _ _ _ _ _ 22 hh1 (HV.out.keep b1));(have cc:=concat_parts w1.heap.size 2 (vcL n) (vcB n b) _ hP (by decide) hL h0);clear hP)
  | (go_at_call 46;refine cc.mono ?_;clear cc;rintro e w2 ⟨s,rfl,own2,b2⟩))
 go_ret2
 have ba:=below_next b1 ((Below.refl w1.heap.size w1).alloc (Nat.le_refl _) (.cells #[.slice x2 (lnS n) c2,.slice x1 n c1] 22))
 exact ⟨s,rfl,World.ownsRow.mono own2 ba.size,below_next ba b2⟩
end Go.Proofs.Ytibgjjbnehhanaa
namespace Go.Proofs.Ytibgjjbnehhanaa
open Go.RowKit
theorem bigN_up {pn:Nat→Nat}:∀ {n m},n≤m→bigN pn n=true→bigN pn m=true
 | n,0,h,hb=>by
  obtain rfl:n=0:=by omega
  exact hb
 | n,m+1,h,hb=>by
  by_cases e:n=m+1
  · subst e;exact hb
  · show (bigN pn m || _)=true
    rw [bigN_up (by omega:n≤m) hb];rfl
set_option maxRecDepth 20000 in
set_option maxHeartbeats 4000000 in
theorem cVecs_any (xo:Option Addr) (cnt cap:Nat) (pv:Nat→Value) (pn:Nat→Nat) (pb:Nat→Nat→Nat) (hcnt:cnt≤1048576) (hsum:sumN pn cnt≤1048576) (w:World) (hP:PiecesIn w xo cnt pv pn pb) :
 Calls Try.prog 20 #[.slice xo cnt cap] w fun e w'=>((bigN pn cnt=true∧e = .returned (.tuple #[.slice none 0 0,.int .i64 6]))∨(bigN pn cnt=false∧∃ v,e = .returned (.tuple #[v,.int .i64 0])∧Own w.heap.size w' v (vsL pn cnt) (vsB pn pb cnt)))∧Below w.heap.size w w':=by
 have hall:=vsL_le pn cnt
 go_enter Try.func20,Try.ntmps20
 go_wp2
 go_loopw [4,11] (fun al i wr=>∃ q:Nat,q≤cnt∧i = .int .i64 q∧(∃ xa ca,al = .slice xa (vsL pn q) ca∧Own w.heap.size wr (.slice xa (vsL pn q) ca) (vsL pn q) (vsB pn pb q))∧bigN pn q=false∧Below w.heap.size w wr) (fun _ i _=>cnt - (intOf i).toNat)
 case atStart=>exact ⟨0,Nat.zero_le _,rfl,⟨none,0,rfl,Own.nil _ _ _⟩,rfl,Below.refl _ _⟩
 case round =>
  obtain ⟨q,hq,rfl,⟨xa,ca,rfl,own⟩,hbg,hb⟩:=hrel
  by_cases hlt:q<cnt
  · obtain ⟨lb,lo,rfl,hcell⟩:=(hP.keep hb).cell q hlt
    have hBq:=(hP.keep hb).each q hlt
    have hc0:=hcell q hlt
    have hqi:(0:Int)≤(q:Int)∧(q:Int)<cnt:=by omega
    have hq1:(q:Int)<(cnt:Int):=by omega
    by_cases hz:65536<pn q
    · have hv:=cVec11_size (pv q) (pn q) (pb q) hz wr hBq
      have hB1:bigN pn cnt=true:=bigN_up hlt (by show (bigN pn q || decide (65536<pn q))=true;rw [decide_eq_true hz,Bool.or_true])
      obtain ⟨vv,hvv⟩:∃ vv,vv=pv q:=⟨_,rfl⟩
      rw [←hvv] at hv hc0
      clear hvv hBq hcell hP hz own hbg
      go_wp2_with (go_at_call 15;refine hv.mono ?_;clear hv;rintro e w1 ⟨rfl,b1⟩)
      go_ret2
      exact ⟨.inl ⟨hB1,rfl⟩,below_next hb b1⟩
    have hv:=cVec11_good (pv q) (pn q) (pb q) (by omega) wr hBq
    have hbg2:bigN pn (q+1)=false:=by show (bigN pn q || decide (65536<pn q))=false;rw [hbg,decide_eq_false hz];rfl
    have HN:Hid (vsL pn (q+1)=vsL pn q+vcL (pn q)∧vsB pn pb (q+1)=cat (vsL pn q) (vsB pn pb q) (vcB (pn q) (pb q))):=Hid.mk' ⟨rfl,rfl⟩
    have hle:vsL pn (q+1)≤vsL pn cnt:=sumN_le _ hlt
    rw [HN.out.1] at hle
    obtain ⟨T,hT⟩:∃ T,T=vsL pn q:=⟨_,rfl⟩
    obtain ⟨F,hF⟩:∃ F,F=vsB pn pb q:=⟨_,rfl⟩
    obtain ⟨m,hm⟩:∃ m,m=vcL (pn q):=⟨_,rfl⟩
    obtain ⟨G,hG⟩:∃ G,G=vcB (pn q) (pb q):=⟨_,rfl⟩
    obtain ⟨vv,hvv⟩:∃ vv,vv=pv q:=⟨_,rfl⟩
    rw [←hT,←hF,←hm,←hG] at HN
    rw [←hT,←hm] at hle
    rw [←hT,←hF] at own
    rw [←hm,←hG,←hvv] at hv
    rw [←hvv] at hc0
    rw [←hT]
    have hTm:T+m≤140737488355328:=by omega
    clear hT hF hm hG hvv hBq hcell hP hle hz hbg
    go_wp2_with (first
     | (go_at_call 15;refine hv.mono ?_;clear hv;rintro e w1 ⟨s1,rfl,own1,b1⟩;(obtain ⟨x1,c1,hs1,hxn1,hc1,hsrc1⟩:=(BytesIn.of_own own1).src);subst hs1;have hsrc:=hsrc1 w1 (Below.refl _ _);have ownW:=own.below b1;have hbw1:=below_next hb b1)
     | (at_builtin;refine wpList_append_bytes rfl (.tmp 23) (.tmp 24) rfl w.heap.size _ T F rfl ownW x1 m c1 G rfl hsrc hxn1 hTm hbw1.size ?_;intro v2 w2 own2 grow2;have hbw2:=Own.grown hbw1 grow2 ownW (Nat.le_refl _) hbw1.size;(obtain ⟨x2,c2,hv2⟩:=own2.slice);subst hv2))
    go_roundw
    case rel=>exact ⟨q+1,hlt,by go_num,⟨x2,c2,by rw [HN.out.1],by rw [HN.out.1,HN.out.2];exact own2⟩,hbg2,hbw2⟩
    case measure=>simp [intOf];omega
  · obtain rfl:q=cnt:=by omega
    have hq1:¬(q:Int)<(q:Int):=by omega
    go_wp2
    go_ret2
    exact ⟨⟨_,rfl,own⟩,hb⟩
end Go.Proofs.Ytibgjjbnehhanaa
namespace Go.Proofs.Ytibgjjbnehhanaa
open Go.RowKit
theorem RdC.ge {lo hi:Nat} {w:World} {g L:Nat} {B:Nat→Nat} {r:Rd} (h:RdC lo hi w g L B r):lo≤g:=h.choose_spec.2.2.2.1.1
theorem num11_any (x:Int) (w:World):Calls Try.prog 17 #[.int .i64 x] w fun e w'=>e = .returned (.int .i64 x)∧w=w':=by
 go_enter Try.func17,Try.ntmps17
 go_wp2
 go_ret
 exact ⟨rfl,rfl⟩
def twB (a b:Nat) (j:Nat):Nat:=if j=0 then a else b
theorem twB_lt {a b:Nat} (ha:a<256) (hb:b<256) (j:Nat):twB a b j<256:=by unfold twB;split <;> assumption
theorem two_new (w:World) (a b:Nat) (f:Nat × Nat):BytesIn (w.alloc (.cells #[.int .u8 (a:Int),.int .u8 (b:Int)] 5 f)) (.slice (some ⟨w.heap.size,0,none⟩) 2 2) 2 (twB a b):=by
 refine .inr ⟨w.heap.size,0,2,rfl,by simp,Nat.le_refl _,fun j hj => ?_⟩
 unfold World.cell?
 rw [heap_alloc_new]
 match j,hj with
 | 0,_=>simp [twB]
 | 1,_=>simp [twB]
theorem convC2 (W:World):(convert 22 22 (.slice (some ⟨W.heap.size,0,none⟩) 2 2)).run Try.prog (W.alloc (.cells #[.int .u8 97,.int .u8 98] 5)) = .ok (.slice (some ⟨W.heap.size,0,none⟩) 2 2) (W.alloc (.cells #[.int .u8 97,.int .u8 98] 5 (2,3))):=by
 have h:=Lib.run_convert_bytes_const (P:=Try.prog) W 22 5 #[.int .u8 97,.int .u8 98] 2 2 Try.underlying22 Try.underlying5
 rw [h]
 simp
set_option maxRecDepth 20000 in
set_option maxHeartbeats 4000000 in
theorem knows11 (w:World):Calls Try.prog 19 #[] w fun e w'=>e = .returned (.bool true)∧Below w.heap.size w w':=by
 have b0:=(Below.refl w.heap.size w).alloc (Nat.le_refl _) (.cells #[.int .u8 97,.int .u8 98] 5 (2,3))
 have n1:BytesIn (w.alloc (.cells #[.int .u8 97,.int .u8 98] 5 (2,3))) (.slice (some ⟨w.heap.size,0,none⟩) 2 2) 2 (twB 97 98):=two_new w 97 98 _
 have c1:=cVec11_good _ 2 (twB 97 98) (by decide) _ n1
 have hlt:∀ j,vcB 2 (twB 97 98) j<256:=cat_lt (fun j=>beN_lt _ _ j) (twB_lt (by decide) (by decide))
 have es:strB (vcL 2) (vcB 2 (twB 97 98))=⟨#[2,97,98]⟩:=by kernel_rfl
 have ev:vecD 2 (twB 64 5) ⟨0,0⟩=(0,⟨0,21⟩):=by kernel_rfl
 have n2:∀ W:World,BytesIn (W.alloc (.cells #[.int .u8 64,.int .u8 5] 5)) (.slice (some ⟨W.heap.size,0,none⟩) 2 2) 2 (twB 64 5):=fun W=>two_new W 64 5 _
 have c2:=fun W=>cNew_any _ 2 (twB 64 5) (by decide) _ (n2 W)
 have c3:=fun lo hi g W h=>cVecR_any lo hi g 2 (twB 64 5) (twB_lt (by decide) (by decide)) ⟨0,0⟩ (by decide) W h
 rw [ev] at c3
 have EV:=Hid.mk' ev
 have hid:=convC2 w
 clear ev n1 n2
 go_enter Try.func19,Try.ntmps19
 go_wp2_with (first
  | (go_at_call 15;refine c1.mono ?_;clear c1;rintro e w1 ⟨s1,rfl,own1,b1⟩;(replace b1:=below_next b0 b1);clear b0;(have hb1:=BytesIn.of_own own1);(obtain ⟨x1,d1,e1⟩:=own1.slice);subst e1;(have ba:=(Below.refl w1.heap.size w1).alloc (Nat.le_refl _) (.cells #[.int .u8 64,.int .u8 5] 5));(have c2:=c2 w1))
  | (go_at_call 22;refine c2.mono ?_;clear c2;rintro e w2 ⟨g,rfl,hr2,b2⟩;(replace b2:=below_next ba b2);clear ba;(have c3:=c3 _ _ g w2 hr2))
  | (go_at_call 28;refine c3.mono ?_;clear c3;rintro e w3 ⟨s3,rfl,own3,hr3,o3⟩;(have hg:w1.heap.size≤g:=Nat.le_trans (by simp) hr2.ge);(have b3:Below w1.heap.size w1 w3:=b2.trans (o3.below hg b2.size));(have ce:=cErr_any _ _ g 2 (twB 64 5) _ w3 hr3);(have cv:=hb1.conv hlt w3 b3);rw [es] at cv;(obtain ⟨x3,d3,e3⟩:=own3.slice);subst e3;clear own1 own3 hb1 hr2 hr3)
  | (go_at_call 17;refine (num11_any _ _).mono ?_;rintro e wn ⟨rfl,hwn⟩;subst hwn)
  | (go_at_call 34;refine ce.mono ?_;clear ce;rintro e w4 ⟨rfl,hw⟩;obtain rfl:=hw.symm))
 go_ret
 exact ⟨rfl,below_next b1 b3⟩
end Go.Proofs.Ytibgjjbnehhanaa
namespace Go.Proofs.Ytibgjjbnehhanaa
open Go.RowKit
theorem vecD_back {L:Nat} {B b:Nat→Nat} {a n:Nat} (lB:∀ j,B j<256) (hn:n≤65536) (hL:a+vcL n≤L) (h:∀ j,j<vcL n→B (a+j)=vcB n b j):vecD L B ⟨a,0⟩=(n,⟨a+vcL n,0⟩)∧(lenD L B ⟨a,0⟩).2.at_=a+lnS n∧∀ j,j<n→B (a+lnS n+j)=b j:=by
 unfold vcL at hL h ⊢
 have e1:lenD L B ⟨a,0⟩=(n,⟨a+lnS n,0⟩):=lenD_back lB (by omega) (by omega) (fun j hj=>by
  rw [h j (by omega)];unfold vcB;rw [cat_left hj])
 refine ⟨?_,by rw [e1],fun j hj => ?_⟩
 · unfold vecD
   rw [e1]
   dsimp only
   rw [if_neg (show ¬((0:Int)=0∧65536<n) by omega)]
   have e2:takD L (n:Int) ⟨a+lnS n,0⟩=(n,⟨a+lnS n+n,0⟩):=by
    unfold takD
    dsimp only
    rw [if_neg (fun e=>e rfl),if_neg (by omega),if_neg (by omega),Int.toNat_natCast]
   rw [e2,if_neg (fun e=>e rfl),Nat.add_assoc]
 · rw [Nat.add_assoc,h (lnS n+j) (by omega)]
   unfold vcB
   rw [cat_right]
theorem vecD_said {L:Nat} {B:Nat→Nat} {r:Rd} (lB:∀ j,B j<256) (hr:r.e=0) (hl:r.at_≤L) (h:(vecD L B r).2.e=0):(vecD L B r).1≤65536∧(vecD L B r).2.at_=r.at_+vcL (vecD L B r).1∧(vecD L B r).2.at_≤L∧∀ j,j<vcL (vecD L B r).1→B (r.at_+j)=vcB (vecD L B r).1 (fun j=>B ((lenD L B r).2.at_+j)) j:=by
 have hs:=lenD_said (L:=L) (r:=r) lB hr hl
 obtain ⟨p,hp⟩:∃ p,p=vecD L B r:=⟨_,rfl⟩
 rw [←hp] at h ⊢
 unfold vecD at hp
 obtain ⟨⟨n,s⟩,hq⟩:∃ q,q=lenD L B r:=⟨_,rfl⟩
 rw [←hq] at hp hs ⊢
 dsimp only at hp hs ⊢
 by_cases h1:s.e=0∧65536<n
 · rw [if_pos h1] at hp
   have e1:takD L (n:Int) ⟨s.at_,21⟩=(0,⟨s.at_,21⟩):=by unfold takD;exact if_pos (fun e=>by cases e)
   rw [e1,if_pos (show (21:Int)≠0 by decide)] at hp
   subst hp;cases h
 rw [if_neg h1] at hp
 by_cases he:s.e≠0
 · have e1:takD L (n:Int) s=(0,s):=by unfold takD;exact if_pos he
   rw [e1,if_pos he] at hp
   subst hp;exact absurd h he
 replace he:s.e=0:=Decidable.not_not.mp he
 obtain ⟨g1,g2,g3,g4⟩:=hs he
 have hn:n≤65536:=by omega
 by_cases h2:(L:Int) - (s.at_:Int)<(n:Int)
 · have e1:takD L (n:Int) s=(0,⟨s.at_,20⟩):=by
    unfold takD;rw [if_neg (fun e=>e he),if_neg (by omega),if_pos h2]
   rw [e1,if_pos (show (20:Int)≠0 by decide)] at hp
   subst hp;cases h
 have e1:takD L (n:Int) s=(n,⟨s.at_+n,0⟩):=by
  unfold takD;rw [if_neg (fun e=>e he),if_neg (by omega),if_neg h2,Int.toNat_natCast]
 rw [e1,if_neg (fun e=>e rfl)] at hp
 subst hp
 dsimp only
 refine ⟨hn,by unfold vcL;omega,by omega,fun j hj => ?_⟩
 unfold vcB
 by_cases hj':j<lnS n
 · rw [cat_left hj',g4 j hj']
 · unfold cat
   rw [if_neg hj',g2]
   show B (r.at_+j)=B (r.at_+lnS n+(j - lnS n))
   rw [show r.at_+lnS n+(j - lnS n)=r.at_+j by omega]
def vst (L:Nat) (B:Nat→Nat):Nat→Rd
 | 0=>⟨0,0⟩
 | i+1=>(vecD L B (vst L B i)).2
def vln (L:Nat) (B:Nat→Nat) (i:Nat):Nat:=(vecD L B (vst L B i)).1
def vbt (L:Nat) (B:Nat→Nat) (i:Nat):Nat→Nat:=fun j=>B ((lenD L B (vst L B i)).2.at_+j)
theorem allB_part (pn:Nat→Nat) (pb:Nat→Nat→Nat) (i:Nat):∀ d j,j<sumN pn i→allB pn pb (i+d) j=allB pn pb i j
 | 0,_,_=>rfl
 | d+1,j,hj=>by
  show cat (sumN pn (i+d)) (allB pn pb (i+d)) (pb (i+d)) j=_
  rw [cat_left (Nat.lt_of_lt_of_le hj (sumN_le pn (Nat.le_add_right _ _))),allB_part pn pb i d j hj]
theorem allB_at (pn:Nat→Nat) (pb:Nat→Nat→Nat) {k cnt:Nat} (hk:k<cnt) {j:Nat} (hj:j<pn k):allB pn pb cnt (sumN pn k+j)=pb k j:=by
 have h:=allB_part pn pb (k+1) (cnt - (k+1)) (sumN pn k+j) (show sumN pn k+j<sumN pn k+pn k by omega)
 rw [show k+1+(cnt - (k+1))=cnt by omega] at h
 rw [h]
 show cat (sumN pn k) (allB pn pb k) (pb k) (sumN pn k+j)=_
 rw [cat_right]
theorem vst_back {L:Nat} {B:Nat→Nat} {pn:Nat→Nat} {pb:Nat→Nat→Nat} {cnt:Nat} (lB:∀ j,B j<256) (hL:L=vsL pn cnt) (hpn:∀ i,i<cnt→pn i≤65536) (hB:∀ j,j<L→B j=vsB pn pb cnt j):∀ i,i≤cnt→vst L B i=⟨vsL pn i,0⟩
 | 0,_=>rfl
 | i+1,hi=>by
  have ih:=vst_back lB hL hpn hB i (by omega)
  have hle:vsL pn i+vcL (pn i)≤vsL pn cnt:=sumN_le (fun i=>vcL (pn i)) hi
  have h:=vecD_back (L:=L) (b:=pb i) (a:=vsL pn i) lB (hpn i hi) (by omega) (fun j hj=>by
   rw [hB _ (by omega)]
   exact allB_at (fun i=>vcL (pn i)) (fun i=>vcB (pn i) (pb i)) hi hj)
  show (vecD L B (vst L B i)).2=_
  rw [ih,h.1]
  rfl
theorem vst_each {L:Nat} {B:Nat→Nat} {pn:Nat→Nat} {pb:Nat→Nat→Nat} {cnt:Nat} (lB:∀ j,B j<256) (hL:L=vsL pn cnt) (hpn:∀ i,i<cnt→pn i≤65536) (hB:∀ j,j<L→B j=vsB pn pb cnt j) (k:Nat) (hk:k<cnt):vln L B k=pn k∧∀ j,j<pn k→vbt L B k j=pb k j:=by
 have ih:=vst_back lB hL hpn hB k (by omega)
 have hle:vsL pn k+vcL (pn k)≤vsL pn cnt:=sumN_le (fun i=>vcL (pn i)) hk
 have h:=vecD_back (L:=L) (b:=pb k) (a:=vsL pn k) lB (hpn k hk) (by omega) (fun j hj=>by
  rw [hB _ (by omega)]
  exact allB_at (fun i=>vcL (pn i)) (fun i=>vcB (pn i) (pb i)) hk hj)
 unfold vln vbt
 rw [ih]
 exact ⟨by rw [h.1],fun j hj=>by rw [h.2.1];exact h.2.2 j hj⟩
theorem vst_said {L:Nat} {B:Nat→Nat} (lB:∀ j,B j<256):∀ i,(∀ k,k≤i→(vst L B k).e=0)→(vst L B i).at_=vsL (vln L B) i∧(vst L B i).at_≤L∧(∀ k,k<i→vln L B k≤65536)∧∀ j,j<vsL (vln L B) i→B j=vsB (vln L B) (vbt L B) i j
 | 0,_=>⟨rfl,Nat.zero_le _,fun k hk=>absurd hk (Nat.not_lt_zero _),fun j hj=>absurd hj (Nat.not_lt_zero _)⟩
 | i+1,h=>by
  obtain ⟨h1,h2,h3,h4⟩:=vst_said lB i (fun k hk=>h k (by omega))
  obtain ⟨g1,g2,g3,g4⟩:=vecD_said (L:=L) (r:=vst L B i) lB (h i (by omega)) h2 (h (i+1) (Nat.le_refl _))
  have e:vsL (vln L B) (i+1)=vsL (vln L B) i+vcL (vln L B i):=rfl
  refine ⟨?_,g3,fun k hk => ?_,fun j hj => ?_⟩
  · show (vecD L B (vst L B i)).2.at_=_
    rw [g2,h1];rfl
  · by_cases hk':k=i
    · subst hk';exact g1
    · exact h3 k (by omega)
  · show B j=cat (vsL (vln L B) i) (vsB (vln L B) (vbt L B) i) (vcB (vln L B i) (vbt L B i)) j
    by_cases hj':j<vsL (vln L B) i
    · rw [cat_left hj',h4 j hj']
    · have:=g4 (j - vsL (vln L B) i) (by show _<vcL (vln L B i);omega)
      rw [h1,show vsL (vln L B) i+(j - vsL (vln L B) i)=j by omega] at this
      unfold cat
      rw [if_neg hj']
      exact this
end Go.Proofs.Ytibgjjbnehhanaa
namespace Go.Proofs.Ytibgjjbnehhanaa
open Go.RowKit
def OwnL (base:Nat) (w:World) (v:Value) (n:Nat) (pv:Nat→Value):Prop:=w.ownsRow base 22 1 v n ((List.range n).map pv)
theorem info_bytes:(Try.prog.info? 22).map (fun i=>(i.zero,i.size,i.bytes))=some (some (.slice none 0 0),1,24):=by kernel_rfl
theorem und_list:Try.prog.underlying 37=some (.slice 22):=by kernel_rfl
theorem OwnL.nil (base:Nat) (w:World) (pv:Nat→Value):OwnL base w (.slice none 0 0) 0 pv:=World.ownsRow_nil w base _ _
theorem OwnL.slice {base:Nat} {w:World} {v:Value} {n:Nat} {pv:Nat→Value} (h:OwnL base w v n pv):∃ x c,v = .slice x n c:=by
 rcases h.2 with ⟨rfl,rfl⟩ | ⟨g,cap,cur,rfl,_⟩
 · exact ⟨_,_,rfl⟩
 · exact ⟨_,_,rfl⟩
theorem wpList_append_piece {w:World} {ops:Array Oper} {rest:List Oper} {o:Oper} {a:Act} {Q:Exit→Act→World→Prop} (hgd:o.guard=none) (s x:Operand)
 (ho:o.op = .call { callee := .builtin .append,args:=#[s,x],argTypes:=#[37,37] }) (base:Nat)
 (v:Value) (n:Nat) (pv:Nat→Value) (u:Value) (hs:a.eval s=v) (hown:OwnL base w v n pv) (hx:a.eval x = .slice (some ⟨w.heap.size,0,none⟩) 1 1) (hu:u=pv n) (h1:u.oneCell'=true)
 (hl:n+1≤10000000) (hbase:base≤w.heap.size)
 (h:∀ v' w',OwnL base w' v' (n+1) pv→(w.alloc (.cells #[u] 22)).grownBy w' v.ownBlock→wpList Try.prog ops Q rest (a.put o.dst v') w'):wpList Try.prog ops Q (o :: rest) a (w.alloc (.cells #[u] 22)):=by
 obtain ⟨i0,hi,hz0,hz1,hz2⟩:=info_parts info_bytes
 refine wpList_append_own _ hgd s x 37 ho base 22 i0 (.slice none 0 0) 1 24 und_list hi hz0 hz1 hz2 rfl (by decide) v n _ hs (World.ownsRow.alloc hown _) ⟨w.heap.size,0,none⟩ 1 1 [u] hx rfl ?_ ?_ (by unfold maxLen;omega) (by omega) (by simp only [World.size_alloc];omega) (fun v' w' h2 h3 _=>h v' w' ?_ h3)
 · exact one_new w u _
 · intro y hy
   simp at hy
   subst hy
   exact h1
 · unfold OwnL
   rw [List.range_succ,List.map_append,List.map_cons,List.map_nil,←hu]
   exact h2
theorem own_apart {base base':Nat} {w:World} {p v:Value} {n m:Nat} {X:Nat→Nat} {pv:Nat→Value} (hp:Own base w p n X) (hv:OwnL base' w v m pv):p.ownBlock=none∨p.ownBlock≠v.ownBlock:=by
 rcases hp.2 with ⟨rfl,_⟩ | ⟨g,cap,cur,rfl,_,hg,_⟩
 · exact .inl rfl
 · right
   rcases hv.2 with ⟨rfl,_⟩ | ⟨g',cap',cur',rfl,_,hg',_⟩
   · intro e;cases e
   · intro e
     have e':g=g':=by simpa [Value.ownBlock] using e
     subst e'
     rw [hg] at hg'
     cases hg'
theorem own_out {base e:Nat} {w w':World} {v:Value} {n size:Nat} {xs:List Value} (h:w.ownsRow base e size v n xs) {b o k:Nat} (ho:Out b o k w w') (hb:b<base):w'.ownsRow base e size v n xs :=
 h.kept (row:=some b) ⟨ho.os,ho.tape,ho.output,ho.size,fun c hc hne=>ho.block c hc (fun e=>hne (by rw [e]))⟩ (by
  cases hv:v.ownBlock with
  | none=>exact .inl rfl
  | some c=>exact .inr (fun e=>by have:=(h.lt c hv).1;cases e;omega))
structure LsIn (base:Nat) (w:World) (v:Value) (n:Nat) (pv:Nat→Value) (pn:Nat→Nat) (pb:Nat→Nat→Nat):Prop where
 list:OwnL base w v n pv
 each:∀ i,i<n→Own base w (pv i) (pn i) (pb i)
theorem LsIn.below {base:Nat} {w w':World} {v:Value} {n:Nat} {pv:Nat→Value} {pn:Nat→Nat} {pb:Nat→Nat→Nat} (h:LsIn base w v n pv pn pb) (hb:Below w.heap.size w w'):LsIn base w' v n pv pn pb :=
 ⟨own_below h.list hb,fun i hi=>own_below (h.each i hi) hb⟩
theorem LsIn.out {base:Nat} {w w':World} {v:Value} {n:Nat} {pv:Nat→Value} {pn:Nat→Nat} {pb:Nat→Nat→Nat} (h:LsIn base w v n pv pn pb) {b o k:Nat} (ho:Out b o k w w') (hb:b<base):LsIn base w' v n pv pn pb :=
 ⟨own_out h.list ho hb,fun i hi=>own_out (h.each i hi) ho hb⟩
theorem LsIn.pieces {base:Nat} {w:World} {x:Option Addr} {n c:Nat} {pv:Nat→Value} {pn:Nat→Nat} {pb:Nat→Nat→Nat} (h:LsIn base w (.slice x n c) n pv pn pb) (lB:∀ i j,pb i j<256):PiecesIn w x n pv pn pb:=by
 refine ⟨fun q hq => ?_,fun i hi=>BytesIn.of_own (h.each i hi),lB⟩
 rcases h.list.2 with ⟨_,e⟩ | ⟨g,cap,cur,e,_⟩
 · omega
 · cases e
   refine ⟨g,0,rfl,fun i hi => ?_⟩
   rw [Nat.zero_add]
   have:=World.ownsRow.cellAt h.list i (by omega)
   rw [this]
   simp [hi]
theorem LsIn.next {base:Nat} {w w1 w':World} {v v':Value} {n:Nat} {pv pv':Nat→Value} {pn:Nat→Nat} {pb:Nat→Nat→Nat} (h:LsIn base w v n pv pn pb) (e:∀ i,i<n→pv' i=pv i) (hn:Own base w (pv' n) (pn n) (pb n)) (hb:Below w.heap.size w w1) (hl:OwnL base w' v' (n+1) pv') (hg:w1.grownBy w' v.ownBlock):LsIn base w' v' (n+1) pv' pn pb:=by
 refine ⟨hl,fun i hi => ?_⟩
 have hL:=own_below h.list hb
 by_cases e':i=n
 · subst e'
   exact World.ownsRow.kept (own_below hn hb) hg (own_apart (own_below hn hb) hL)
 · rw [e i (by omega)]
   have:=own_below (h.each i (by omega)) hb
   exact World.ownsRow.kept this hg (own_apart this hL)
end Go.Proofs.Ytibgjjbnehhanaa
namespace Go.Proofs.Ytibgjjbnehhanaa
open Go.RowKit
def putV (pv:Nat→Value) (n:Nat) (u:Value):Nat→Value:=fun i=>if i=n then u else pv i
theorem putV_same (pv:Nat→Value) (n:Nat) (u:Value):u=putV pv n u n:=by unfold putV;rw [if_pos rfl]
theorem putV_old (pv:Nat→Value) (n:Nat) (u:Value) {i:Nat} (h:i<n):putV pv n u i=pv i:=by unfold putV;rw [if_neg (by omega)]
theorem OwnL.congr {base:Nat} {w:World} {v:Value} {n:Nat} {pv pv':Nat→Value} (h:OwnL base w v n pv) (e:∀ i,i<n→pv i=pv' i):OwnL base w v n pv':=by
 have e':(List.range n).map pv=(List.range n).map pv':=List.map_congr_left fun i hi=>e i (List.mem_range.1 hi)
 unfold OwnL
 rw [←e']
 exact h
theorem vst_le {L:Nat} {B:Nat→Nat} (lB:∀ j,B j<256):∀ i,(∀ k,k≤i→(vst L B k).e=0)→i≤(vst L B i).at_
 | 0,_=>Nat.zero_le _
 | i+1,h=>by
  have ih:=vst_le lB i (fun k hk=>h k (by omega))
  obtain ⟨h1,h2,-,-⟩:=vst_said lB i (fun k hk=>h k (by omega))
  obtain ⟨g1,g2,g3,g4⟩:=vecD_said (L:=L) (r:=vst L B i) lB (h i (by omega)) h2 (h (i+1) (Nat.le_refl _))
  show i+1≤(vecD L B (vst L B i)).2.at_
  have:=lnS_pos (vecD L B (vst L B i)).1
  unfold vcL at g2
  omega
def Till (L:Nat) (B:Nat→Nat) (q:Nat):Prop:=∀ k,k<q→(vst L B k).e=0∧(vst L B k).at_<L
theorem Till.le {L:Nat} {B:Nat→Nat} (lB:∀ j,B j<256) {q:Nat} (h:Till L B q):q≤L:=by
 match q,h with
 | 0,_=>exact Nat.zero_le _
 | q+1,h =>
  have h1:=(h q (Nat.lt_succ_self _)).2
  have h2:=vst_le lB q (fun k hk=>(h k (by omega)).1)
  omega
set_option maxRecDepth 20000 in
set_option maxHeartbeats 8000000 in
theorem vectors_any (v:Value) (L:Nat) (B:Nat→Nat) (lB:∀ j,B j<256) (hL:L≤6000000) (w:World) (hv:BytesIn w v L B) :
 Calls Try.prog 37 #[v] w fun e w'=>∃ x c cnt pv,e = .returned (.tuple #[.slice x cnt c,.bool (decide (endD L (vst L B cnt)=0))])∧LsIn w.heap.size w' (.slice x cnt c) cnt pv (vln L B) (vbt L B)∧Till L B cnt∧¬((vst L B cnt).e=0∧(vst L B cnt).at_<L)∧Below w.heap.size w w':=by
 have cN:=cNew_any v L B (by omega) w hv
 obtain ⟨x0,c0,rfl,-,-,-⟩:=hv.src
 clear hv
 go_enter Try.func37,Try.ntmps37
 go_wp2_with (go_at_call 22;refine cN.mono ?_;clear cN;rintro e w1 ⟨g,rfl,hr1,b1⟩)
 have hgl:=hr1.lt
 have hge:=hr1.ge
 go_loopw [5,6] (fun al i wr=>∃ q:Nat,i = .int .i64 q∧Till L B q∧(∃ xa ca pv,al = .slice xa q ca∧LsIn w1.heap.size wr (.slice xa q ca) q pv (vln L B) (vbt L B))∧RdC w.heap.size w1.heap.size wr g L B (vst L B q)∧Below w.heap.size w wr) (fun _ i _=>L+1 - (intOf i).toNat)
 case atStart=>exact ⟨0,rfl,fun k hk=>absurd hk (Nat.not_lt_zero _),⟨none,0,fun _ => .bool false,rfl,OwnL.nil _ _ _,fun i hi=>absurd hi (Nat.not_lt_zero _)⟩,hr1,b1⟩
 case round =>
  clear hr1 b1
  obtain ⟨q,rfl,ht,⟨xa,ca,pv,rfl,hl⟩,hr,hb⟩:=hrel
  have hqL:=ht.le lB
  have cl:=cLeft_any _ _ g L B _ wr hr
  have ce:=cErr_any _ _ g L B _ wr hr
  have cE:=cEnd_any _ _ g L B _ wr hr
  have ha:=hr.le
  obtain ⟨z,hz⟩:∃ z:Int,z=(L:Int) - ((vst L B q).at_:Int):=⟨_,rfl⟩
  rw [←hz] at cl
  have t0:(q:Int)≤(L:Int):=by omega
  by_cases h1:(vst L B q).at_<L
  · have t1:(0:Int)<z:=by omega
    by_cases h2:(vst L B q).e=0
    · rw [h2] at ce
      have cv:=cVecR_any _ _ g L B lB _ (by omega) wr hr
      have ht2:Till L B (q+1):=fun k hk=>by
       by_cases e:k=q
       · subst e;exact ⟨h2,h1⟩
       · exact ht k (by omega)
      have HT:=Hid.mk' ht2
      have hge':w1.heap.size≤wr.heap.size:=hr.size
      clear hz cE ht2 h1 h2 ht ha
      go_wp2_with (first
       | (go_at_call 32;refine cl.mono ?_;clear cl;rintro e w2 ⟨rfl,hw⟩;obtain rfl:=hw.symm)
       | (go_at_call 34;refine ce.mono ?_;clear ce;rintro e w2 ⟨rfl,hw⟩;obtain rfl:=hw.symm)
       | (go_at_call 17;refine (num11_any _ _).mono ?_;rintro e wn ⟨rfl,hwn⟩;subst hwn)
       | (go_at_call 28;refine cv.mono ?_;clear cv;rintro e w3 ⟨u,rfl,own3,hr3,o3⟩;(have hl3:=hl.out o3 hgl);(have own3':=own_base own3 hge');(have b3:Below w.heap.size w w3:=hb.trans (o3.below hge hb.size));(obtain ⟨xu,cu,eu⟩:=own3.slice);subst eu)
       | (at_builtin;refine wpList_append_piece rfl (.tmp 26) (.tmp 29) rfl w1.heap.size _ q (putV pv q _) _ rfl (hl3.list.congr fun i hi=>(putV_old _ _ _ hi).symm) rfl (putV_same _ _ _) rfl (by omega) hr3.size ?_;intro v4 w4 own4 grow4))
      have ba:=(Below.refl w3.heap.size w3).alloc (Nat.le_refl _) (.cells #[.slice xu (vecD L B (vst L B q)).1 cu] 22)
      have hl4:LsIn w1.heap.size w4 v4 (q+1) _ (vln L B) (vbt L B):=hl3.next (fun i hi=>putV_old _ _ _ hi) (by unfold putV;rw [if_pos rfl];exact own3') ba own4 grow4
      have b34:Below w1.heap.size w3 w4:=below_grown (Below.mono ba hr3.size) grow4 (own_below hl3.list ba) (Nat.le_refl _) (Nat.le_trans hr3.size ba.size)
      obtain ⟨x4,c4,e4⟩:=own4.slice
      subst e4
      go_roundw
      case rel=>exact ⟨q+1,by go_num,HT.out,⟨x4,c4,_,rfl,hl4⟩,hr3.keep b34,b3.trans (b34.mono (Nat.le_trans (Nat.le_of_lt (Nat.lt_of_le_of_lt hge hgl)) (Nat.le_refl _)))⟩
      case measure=>simp [intOf];omega
    · have HH:Hid (Till L B q∧¬((vst L B q).e=0∧(vst L B q).at_<L)):=⟨ht,fun e=>h2 e.1⟩
      have hl':LsIn w.heap.size wr (.slice xa q ca) q pv (vln L B) (vbt L B):=⟨own_base hl.list (Nat.le_trans hge (Nat.le_of_lt hgl)),fun i hi=>own_base (hl.each i hi) (Nat.le_trans hge (Nat.le_of_lt hgl))⟩
      obtain ⟨x,hx⟩:∃ x,x=endD L (vst L B q):=⟨_,rfl⟩
      rw [←hx] at cE
      have HX:=Hid.mk' hx
      clear hx hz ht ha
      obtain ⟨y,hy⟩:∃ y,y=(vst L B q).e:=⟨_,rfl⟩
      rw [←hy] at ce h2
      clear hy h1 hr hl
      by_cases h0:x=0
      · subst h0
        go_wp2_with (first
         | (go_at_call 32;refine cl.mono ?_;clear cl;rintro e w2 ⟨rfl,hw⟩;obtain rfl:=hw.symm)
         | (go_at_call 34;refine ce.mono ?_;clear ce;rintro e w2 ⟨rfl,hw⟩;obtain rfl:=hw.symm)
         | (go_at_call 17;refine (num11_any _ _).mono ?_;rintro e wn ⟨rfl,hwn⟩;subst hwn)
         | (go_at_call 35;refine cE.mono ?_;clear cE;rintro e w3 ⟨rfl,hw⟩;obtain rfl:=hw.symm))
        go_ret2
        exact ⟨xa,ca,q,pv,by rw [←HX.out];rfl,hl',HH.out.1,HH.out.2,hb⟩
      · go_wp2_with (first
         | (go_at_call 32;refine cl.mono ?_;clear cl;rintro e w2 ⟨rfl,hw⟩;obtain rfl:=hw.symm)
         | (go_at_call 34;refine ce.mono ?_;clear ce;rintro e w2 ⟨rfl,hw⟩;obtain rfl:=hw.symm)
         | (go_at_call 17;refine (num11_any _ _).mono ?_;rintro e wn ⟨rfl,hwn⟩;subst hwn)
         | (go_at_call 35;refine cE.mono ?_;clear cE;rintro e w3 ⟨rfl,hw⟩;obtain rfl:=hw.symm))
        go_ret2
        refine ⟨xa,ca,q,pv,?_,hl',HH.out.1,HH.out.2,hb⟩
        rw [←HX.out,decide_eq_false h0]
        simp [h0]
  · have HH:Hid (Till L B q∧¬((vst L B q).e=0∧(vst L B q).at_<L)):=⟨ht,fun e=>h1 e.2⟩
    have hl':LsIn w.heap.size wr (.slice xa q ca) q pv (vln L B) (vbt L B):=⟨own_base hl.list (Nat.le_trans hge (Nat.le_of_lt hgl)),fun i hi=>own_base (hl.each i hi) (Nat.le_trans hge (Nat.le_of_lt hgl))⟩
    obtain ⟨x,hx⟩:∃ x,x=endD L (vst L B q):=⟨_,rfl⟩
    rw [←hx] at cE
    have HX:=Hid.mk' hx
    have t1:¬(0:Int)<z:=by omega
    clear hx hz ht ha
    clear h1 hr hl
    by_cases h0:x=0
    · subst h0
      go_wp2_with (first
       | (go_at_call 32;refine cl.mono ?_;clear cl;rintro e w2 ⟨rfl,hw⟩;obtain rfl:=hw.symm)
       | (go_at_call 34;refine ce.mono ?_;clear ce;rintro e w2 ⟨rfl,hw⟩;obtain rfl:=hw.symm)
       | (go_at_call 17;refine (num11_any _ _).mono ?_;rintro e wn ⟨rfl,hwn⟩;subst hwn)
       | (go_at_call 35;refine cE.mono ?_;clear cE;rintro e w3 ⟨rfl,hw⟩;obtain rfl:=hw.symm))
      go_ret2
      exact ⟨xa,ca,q,pv,by rw [←HX.out];rfl,hl',HH.out.1,HH.out.2,hb⟩
    · go_wp2_with (first
       | (go_at_call 32;refine cl.mono ?_;clear cl;rintro e w2 ⟨rfl,hw⟩;obtain rfl:=hw.symm)
       | (go_at_call 34;refine ce.mono ?_;clear ce;rintro e w2 ⟨rfl,hw⟩;obtain rfl:=hw.symm)
       | (go_at_call 17;refine (num11_any _ _).mono ?_;rintro e wn ⟨rfl,hwn⟩;subst hwn)
       | (go_at_call 35;refine cE.mono ?_;clear cE;rintro e w3 ⟨rfl,hw⟩;obtain rfl:=hw.symm))
      go_ret2
      refine ⟨xa,ca,q,pv,?_,hl',HH.out.1,HH.out.2,hb⟩
      rw [←HX.out,decide_eq_false h0]
      simp [h0]
end Go.Proofs.Ytibgjjbnehhanaa
namespace Go.Proofs.Ytibgjjbnehhanaa
open Go.RowKit
theorem vbt_lt {L:Nat} {B:Nat→Nat} (lB:∀ j,B j<256) (i j:Nat):vbt L B i j<256:=lB _
def Alike (pn qn:Nat→Nat) (pb qb:Nat→Nat→Nat) (n:Nat):Prop:=∀ i,i<n→pn i=qn i∧∀ j,j<pn i→pb i j=qb i j
theorem vs_alike {pn qn:Nat→Nat} {pb qb:Nat→Nat→Nat}:∀ {n},Alike pn qn pb qb n→vsL pn n=vsL qn n∧∀ j,j<vsL pn n→vsB pn pb n j=vsB qn qb n j
 | 0,_=>⟨rfl,fun _ _=>rfl⟩
 | n+1,h=>by
  obtain ⟨h1,h2⟩:=vs_alike (n:=n) fun i hi=>h i (by omega)
  obtain ⟨g1,g2⟩:=h n (Nat.lt_succ_self _)
  have e:vsL pn (n+1)=vsL pn n+vcL (pn n):=rfl
  refine ⟨?_,fun j hj => ?_⟩
  · show vsL pn n+vcL (pn n)=vsL qn n+vcL (qn n)
    rw [h1,g1]
  · show cat (vsL pn n) (vsB pn pb n) (vcB (pn n) (pb n)) j=cat (vsL qn n) (vsB qn qb n) (vcB (qn n) (qb n)) j
    unfold cat
    rw [←h1]
    by_cases hj':j<vsL pn n
    · rw [if_pos hj',if_pos hj',h2 j hj']
    · rw [if_neg hj',if_neg hj',←g1]
      have hv:vcL (pn n)=lnS (pn n)+pn n:=rfl
      unfold vcB cat
      by_cases h3:j - vsL pn n<lnS (pn n)
      · rw [if_pos h3,if_pos h3]
      · rw [if_neg h3,if_neg h3]
        exact g2 _ (by omega)
theorem read_all {L:Nat} {B:Nat→Nat} (lB:∀ j,B j<256) {n:Nat} (ht:Till L B n) (hn:¬((vst L B n).e=0∧(vst L B n).at_<L)) (hk:endD L (vst L B n)=0):L=vsL (vln L B) n∧(∀ k,k<n→vln L B k≤65536)∧∀ j,j<L→B j=vsB (vln L B) (vbt L B) n j:=by
 have he:(vst L B n).e=0:=by
  unfold endD at hk
  by_cases h:(vst L B n).e=0∧(vst L B n).at_<L
  · exact h.1
  · rw [if_neg h] at hk;exact hk
 obtain ⟨h1,h2,h3,h4⟩:=vst_said lB n (fun k hk=>by
  by_cases e:k=n
  · subst e;exact he
  · exact (ht k (by omega)).1)
 have h5:¬(vst L B n).at_<L:=fun e=>hn ⟨he,e⟩
 have h6:L=vsL (vln L B) n:=by omega
 exact ⟨h6,h3,fun j hj=>h4 j (by omega)⟩
theorem PiecesIn.at_ {w:World} {xo:Option Addr} {cnt:Nat} {pv:Nat→Value} {pn:Nat→Nat} {pb:Nat→Nat→Nat} (h:PiecesIn w xo cnt pv pn pb) {q:Nat} (hq:q<cnt):∃ lb lo,xo=some ⟨lb,lo,none⟩∧(∀ w',Below w.heap.size w w'→w'.cell? ⟨lb,lo+q,none⟩=some (pv q))∧∀ w',Below w.heap.size w w'→(convert 22 9 (pv q)).run Try.prog w' = .ok (.string (strB (pn q) (pb q))) w':=by
 obtain ⟨lb,lo,e,hc⟩:=h.cell q hq
 exact ⟨lb,lo,e,fun w' hb=>(hb.cell (p:=⟨lb,lo+q,none⟩) (block_lt_of_cell (hc q hq))).trans (hc q hq),fun w' hb=>(h.each q hq).conv (h.byte q) w' hb⟩
theorem ba_ne {s t:ByteArray} (h:¬s=t):¬s.toList=t.toList:=fun e=>h (by
 rw [ByteArray.toList_eq,ByteArray.toList_eq] at e
 exact ByteArray.ext (Array.toList_inj.1 e))
theorem exec_conv {o:Oper} {a:Act} {w:World} {s:ByteArray} (x:Operand) (ho:o.op = .convert 22 9 x) {v:Value} (hx:a.eval x=v) (h:(convert 22 9 v).run Try.prog w = .ok (.string s) w):(execOp a.eval o).run Try.prog w = .ok (.value (.string s)) w:=by
 simp [execOp,ho,hx,h,Result.andThen]
set_option maxRecDepth 20000 in
set_option maxHeartbeats 8000000 in
theorem codecApart_any (v u:Value) (n m:Nat) (az bs:Nat→Nat) (la:∀ j,az j<256) (lb:∀ j,bs j<256) (hn:n≤1048576) (hm:m≤1048576) (w:World) (hv:BytesIn w v n az) (hu:BytesIn w u m bs) :
 Calls Try.prog 8 #[v,u] w fun e w'=>e = .returned (.bool true)∧Below w.heap.size w w':=by
 have c1:=vectors_any v n az la (by omega) w hv
 have c2:=fun W hb=>vectors_any u m bs lb (by omega) W (hu.keep hb)
 have y1:=hv.conv la
 have y2:=hu.conv lb
 clear hv hu
 go_enter Try.func8,Try.ntmps8
 go_upto_region 3 with (first
  | (go_at_call 37;refine c1.mono ?_;clear c1;rintro e w1 ⟨x1,d1,n1,pv1,rfl,hl1,ht1,hs1,b1⟩;(have c2:=c2 w1 b1);(have hn1:n1≤1048576:=Nat.le_trans (ht1.le la) hn);(have hE1:=fun hk=>read_all la ht1 hs1 hk);clear ht1 hs1;(obtain ⟨k1,hk1⟩:∃ k,k=endD n (vst n az n1):=⟨_,rfl⟩);rw [←hk1] at hE1 ⊢;clear hk1)
  | (go_at_call 37;refine c2.mono ?_;clear c2;rintro e w2 ⟨x2,d2,n2,pv2,rfl,hl2,ht2,hs2,b2⟩;(have P1:=Hid.mk' ((hl1.below b2).pieces fun i j=>vbt_lt la i j));(have P2:=Hid.mk' (hl2.pieces fun i j=>vbt_lt lb i j));clear hl1 hl2;(replace b2:=below_next b1 b2);clear b1;(have hE2:=fun hk=>read_all lb ht2 hs2 hk);clear ht2 hs2;(obtain ⟨k2,hk2⟩:∃ k,k=endD m (vst m bs n2):=⟨_,rfl⟩);rw [←hk2] at hE2 ⊢;clear hk2))
 by_cases g1:k1=0
 · by_cases g2:k2=0
   · by_cases g3:n1=n2
     · subst g3
       have E1:=Hid.mk' (hE1 g1)
       have E2:=Hid.mk' (hE2 g2)
       clear hE1 hE2
       subst g1
       subst g2
       go_wp2
       go_loopw [9] (fun i wr=>∃ q:Nat,q≤n1∧i = .int .i64 q∧Hid (Alike (vln n az) (vln m bs) (vbt n az) (vbt m bs) q)∧Below w2.heap.size w2 wr) (fun i _=>n1 - (intOf i).toNat)
       case atStart=>exact ⟨0,Nat.zero_le _,rfl,Hid.mk' fun i hi=>absurd hi (Nat.not_lt_zero _),Below.refl _ _⟩
       case round =>
        obtain ⟨q,hq,rfl,HA,hb⟩:=hrel
        by_cases hlt:q<n1
        · obtain ⟨b1,o1,rfl,r1,z1⟩:=P1.out.at_ hlt
          obtain ⟨b2',o2,rfl,r2,z2⟩:=P2.out.at_ hlt
          have t0:(q:Int)<(n1:Int):=by omega
          have t9:IntKind.i64.wrap ((q:Int)+1)=(q:Int)+1:=by simp only [IntKind.wrap_i64];omega
          have t1:(0:Int)≤(q:Int)∧(q:Int)<(n1:Int):=by omega
          have bd:Below wr.heap.size wr wr.drew:=(Below.refl _ _).drew
          have bW:=below_next hb bd
          have heq:=strB_eq (n:=vln n az q) (m:=vln m bs q) (a:=vbt n az q) (b:=vbt m bs q) (fun j=>vbt_lt la q j) (fun j=>vbt_lt lb q j)
          have HN:Hid (strB (vln n az q) (vbt n az q)=strB (vln m bs q) (vbt m bs q)→Alike (vln n az) (vln m bs) (vbt n az) (vbt m bs) (q+1)):=fun h i hi=>by
           by_cases e:i=q
           · subst e;exact heq.1 h
           · exact HA.out i (by omega)
          obtain ⟨S1,hS1⟩:∃ S,S=strB (vln n az q) (vbt n az q):=⟨_,rfl⟩
          obtain ⟨S2,hS2⟩:∃ S,S=strB (vln m bs q) (vbt m bs q):=⟨_,rfl⟩
          rw [←hS1,←hS2] at HN
          rw [←hS1] at z1
          rw [←hS2] at z2
          obtain ⟨p1,hp1⟩:∃ p,p=pv1 q:=⟨_,rfl⟩
          obtain ⟨p2,hp2⟩:∃ p,p=pv2 q:=⟨_,rfl⟩
          rw [←hp1] at r1 z1
          rw [←hp2] at r2 z2
          clear hS1 hS2 hp1 hp2 heq HA
          go_upto_region 8 with (fail)
          refine wp_region_held_drew (S:=fun u=>Below wr.drew.heap.size wr.drew u) (by kernel_rfl) (Below.refl _ _) (fun hS => ?_)
          refine tg 0 hS ?_
          (try simp only [pS])
          refine tg 1 hS ?_
          (try simp only [pS])
          refine tg 2 hS ?_
          (try simp only [pS])
          refine tc 3 hS (fun u hu=>r1 u (below_next bW hu)) ?_
          (try simp only [pS])
          refine tg 4 hS (v := .string S1) ?_ (hy:=fun u hu=>exec_conv (.tmp 43) rfl rfl (z1 u (below_next bW hu)))
          (try simp only [pS])
          refine tg 5 hS ?_
          (try simp only [pS])
          refine tg 6 hS ?_
          (try simp only [pS])
          refine tg 7 hS ?_
          (try simp only [pS])
          refine tc 8 hS (fun u hu=>r2 u (below_next bW hu)) ?_
          (try simp only [pS])
          refine tg 9 hS (v := .string S2) ?_ (hy:=fun u hu=>exec_conv (.tmp 48) rfl rfl (z2 u (below_next bW hu)))
          (try simp only [pS])
          by_cases hSS:S1=S2
          · subst hSS
            refine tg 10 hS (v := .bool false) ?_
            (try simp only [pS])
            refine wpAnyH_done (by kernel_rfl) ?_ _
            go_wp2
            go_roundw
            case rel=>exact ⟨q+1,hlt,by go_num,HN.out rfl,bW⟩
            case measure=>simp [intOf];omega
          · have hTT:=ba_ne hSS
            refine tg 10 hS (v := .bool true) ?_
            (try simp only [pS])
            refine wpAnyH_done (by kernel_rfl) ?_ _
            go_wp2_with (go_at_call 19;refine (knows11 _).mono ?_;rintro e w9 ⟨rfl,b9⟩)
            go_ret
            exact ⟨rfl,below_next b2 (below_next bW b9)⟩
        · obtain rfl:q=n1:=by omega
          have t0:¬(q:Int)<(q:Int):=by omega
          have hb':=below_next b2 hb
          obtain ⟨f1,f2⟩:=vs_alike HA.out
          have hnm:n=m:=by rw [E1.out.1,E2.out.1,f1]
          have hs:strB n az=strB m bs:=by
           subst hnm
           exact strB_congr fun j hj=>by rw [E1.out.2.2 j hj,E2.out.2.2 j hj];exact f2 j (by rw [←E1.out.1];exact hj)
          have z1:=y1 wr hb'
          have z2:=y2 wr hb'
          rw [←hs] at z2
          obtain ⟨SS,hSS⟩:∃ S,S=strB n az:=⟨_,rfl⟩
          rw [←hSS] at z1 z2
          clear hs hSS y1 y2 f1 f2
          go_wp2_with (go_at_call 19;refine (knows11 _).mono ?_;rintro e w9 ⟨rfl,b9⟩)
          go_ret
          exact ⟨rfl,below_next hb' b9⟩
     · have t3:¬(n1:Int)=(n2:Int):=by omega
       clear hE1 hE2 y1 y2
       subst g1
       subst g2
       go_wp2_with (go_at_call 19;refine (knows11 _).mono ?_;rintro e w9 ⟨rfl,b9⟩)
       go_ret
       exact ⟨rfl,below_next b2 b9⟩
   · clear hE1 hE2 y1 y2
     subst g1
     have t3:decide (k2=0)=false:=decide_eq_false g2
     go_wp2_with (go_at_call 19;refine (knows11 _).mono ?_;rintro e w9 ⟨rfl,b9⟩)
     go_ret
     exact ⟨rfl,below_next b2 b9⟩
 · clear hE1 hE2 y1 y2
   have t3:decide (k1=0)=false:=decide_eq_false g1
   go_wp2_with (go_at_call 19;refine (knows11 _).mono ?_;rintro e w9 ⟨rfl,b9⟩)
   go_ret
   exact ⟨rfl,below_next b2 b9⟩
end Go.Proofs.Ytibgjjbnehhanaa
namespace Go.Proofs.Ytibgjjbnehhanaa
open Go.RowKit
theorem cVecs_big (xo:Option Addr) (cnt cap:Nat) (pv:Nat→Value) (pn:Nat→Nat) (pb:Nat→Nat→Nat) (hbig:bigN pn cnt=true) (hcnt:cnt≤1048576) (hsum:sumN pn cnt≤1048576) (w:World) (hP:PiecesIn w xo cnt pv pn pb) :
 Calls Try.prog 20 #[.slice xo cnt cap] w fun e w'=>e = .returned (.tuple #[.slice none 0 0,.int .i64 6])∧Below w.heap.size w w' :=
 (cVecs_any xo cnt cap pv pn pb hcnt hsum w hP).mono fun e w' ⟨h,b⟩=>⟨h.elim (fun h=>h.2) (fun h=>by rw [hbig] at h;cases h.1),b⟩
theorem cVecs_good (xo:Option Addr) (cnt cap:Nat) (pv:Nat→Value) (pn:Nat→Nat) (pb:Nat→Nat→Nat) (hbig:bigN pn cnt=false) (hcnt:cnt≤1048576) (hsum:sumN pn cnt≤1048576) (w:World) (hP:PiecesIn w xo cnt pv pn pb) :
 Calls Try.prog 20 #[.slice xo cnt cap] w fun e w'=>∃ v,e = .returned (.tuple #[v,.int .i64 0])∧Own w.heap.size w' v (vsL pn cnt) (vsB pn pb cnt)∧Below w.heap.size w w' :=
 (cVecs_any xo cnt cap pv pn pb hcnt hsum w hP).mono fun e w' ⟨h,b⟩=>h.elim (fun h=>by rw [hbig] at h;cases h.1) (fun ⟨_,v,h1,h2⟩=>⟨v,h1,h2,b⟩)
end Go.Proofs.Ytibgjjbnehhanaa
namespace Go.Proofs.Ytibgjjbnehhanaa
open Go.RowKit
theorem bigN_of {pn:Nat→Nat}:∀ {n},(∀ i,i<n→pn i≤65536)→bigN pn n=false
 | 0,_=>rfl
 | n+1,h=>by
  show (bigN pn n || decide (65536<pn n))=false
  rw [bigN_of (n:=n) fun i hi=>h i (by omega),decide_eq_false (Nat.not_lt.2 (h n (Nat.lt_succ_self _)))]
  rfl
theorem sum_vs (pn:Nat→Nat):∀ n,sumN pn n≤vsL pn n
 | 0=>Nat.le_refl _
 | n+1=>by
  have:=sum_vs pn n
  show sumN pn n+pn n≤vsL pn n+(lnS (pn n)+pn n)
  omega
theorem vs_lt (pn:Nat→Nat) {i n:Nat} (h:i<n):vsL pn i<vsL pn n:=by
 have h1:vsL pn (i+1)≤vsL pn n:=sumN_le _ h
 have h2:vsL pn (i+1)=vsL pn i+(lnS (pn i)+pn i):=rfl
 have:=lnS_pos (pn i)
 omega
theorem back_all {L:Nat} {B:Nat→Nat} {pn:Nat→Nat} {pb:Nat→Nat→Nat} {cnt n:Nat} (lB:∀ j,B j<256) (hL:L=vsL pn cnt) (hpn:∀ i,i<cnt→pn i≤65536) (hB:∀ j,j<L→B j=vsB pn pb cnt j) (ht:Till L B n) (hs:¬((vst L B n).e=0∧(vst L B n).at_<L)):n=cnt∧endD L (vst L B n)=0:=by
 have hb:=vst_back lB hL hpn hB
 have h1:n≤cnt:=Nat.le_of_not_lt fun e=>by
  have:=(ht cnt e).2
  rw [hb cnt (Nat.le_refl _)] at this
  have h2:vsL pn cnt<L:=this
  omega
 have h2:n=cnt:=by
  by_cases e:n<cnt
  · exact absurd ⟨by rw [hb n h1],by rw [hb n h1,hL];exact vs_lt pn e⟩ hs
  · omega
 refine ⟨h2,?_⟩
 rw [h2,hb cnt (Nat.le_refl _)]
 unfold endD
 rw [if_neg (fun e=>by have h3:vsL pn cnt<L:=e.2;omega)]
set_option maxRecDepth 20000 in
set_option maxHeartbeats 8000000 in
theorem codecBack_any (xo:Option Addr) (cnt cap:Nat) (pv:Nat→Value) (pn:Nat→Nat) (pb:Nat→Nat→Nat) (u:Value) (m:Nat) (bs:Nat→Nat) (lb:∀ j,bs j<256) (hcnt:cnt≤1048576) (hsum:sumN pn cnt≤1048576) (hm:m≤1048576) (w:World) (hP:PiecesIn w xo cnt pv pn pb) (hu:BytesIn w u m bs) :
 Calls Try.prog 7 #[.slice xo cnt cap,u] w fun e w'=>e = .returned (.bool true)∧Below w.heap.size w w':=by
 have lv:∀ j,vsB pn pb cnt j<256:=allB_lt (fun i j=>cat_lt (fun j=>beN_lt _ _ j) (hP.byte i) j) cnt
 have hvl:=vsL_le pn cnt
 have HP:=Hid.mk' hP
 by_cases hbig:bigN pn cnt=true
 · have c1:=cVecs_big xo cnt cap pv pn pb hbig hcnt hsum w hP
   clear hP hu
   go_enter Try.func7,Try.ntmps7
   go_wp2_with (first
    | (go_at_call 20;refine c1.mono ?_;clear c1;rintro e w1 ⟨rfl,b1⟩)
    | (go_at_call 17;refine (num11_any _ _).mono ?_;rintro e wn ⟨rfl,hwn⟩;subst hwn)
    | (go_at_call 19;refine (knows11 _).mono ?_;rintro e w9 ⟨rfl,b9⟩))
   go_ret
   exact ⟨rfl,below_next b1 b9⟩
 · have hbf:bigN pn cnt=false:=by simpa using hbig
   have c1:=cVecs_good xo cnt cap pv pn pb hbf hcnt hsum w hP
   have hpn:=bigN_false hbf
   have c2:=fun (v:Value) (W:World) (h:BytesIn W v (vsL pn cnt) (vsB pn pb cnt))=>vectors_any v _ _ lv (by omega) W h
   have c3:=fun W hb=>vectors_any u m bs lb (by omega) W (hu.keep hb)
   have y2:=hu.conv lb
   have Hall:=Hid.mk' (fun n ht hs=>back_all (n:=n) lv rfl hpn (fun j _=>rfl) ht hs)
   have Heach:=Hid.mk' (fun k hk=>vst_each lv rfl hpn (fun j _=>rfl) k hk)
   have LV:=Hid.mk' lv
   clear hpn hP hu hbig hbf lv hvl
   generalize vsL pn cnt=L at *
   generalize vsB pn pb cnt=B at *
   go_enter Try.func7,Try.ntmps7
   go_upto_region 5 with (first
    | (go_at_call 20;refine c1.mono ?_;clear c1;rintro e w1 ⟨a,rfl,own1,b1⟩;(have c2:=c2 a w1 (BytesIn.of_own own1));(obtain ⟨xa,ca,ea⟩:=own1.slice);subst ea)
    | (go_at_call 17;refine (num11_any _ _).mono ?_;rintro e wn ⟨rfl,hwn⟩;subst hwn)
    | (go_at_call 37;refine c2.mono ?_;clear c2;rintro e w2 ⟨x1,d1,n1,pv1,rfl,hl1,ht1,hs1,b2⟩;(obtain ⟨hn,hE⟩:=Hall.out n1 ht1 hs1);rw [hE];subst hn;(have P1:=Hid.mk' (hl1.pieces fun i j=>vbt_lt LV.out i j));(have P2:=Hid.mk' (HP.out.keep (below_next b1 b2)));(replace b2:=below_next b1 b2);clear ht1 hs1 hE hl1 own1 b1))
   go_wp2
   go_loopw [9] (fun i wr=>∃ q:Nat,q≤n1∧i = .int .i64 q∧Below w2.heap.size w2 wr) (fun i _=>n1 - (intOf i).toNat)
   case atStart=>exact ⟨0,Nat.zero_le _,rfl,Below.refl _ _⟩
   case round =>
    obtain ⟨q,hq,rfl,hb⟩:=hrel
    by_cases hlt:q<n1
    · obtain ⟨b1,o1,rfl,r1,z1⟩:=P1.out.at_ hlt
      obtain ⟨b2',o2,rfl,r2,z2⟩:=P2.out.at_ hlt
      have t0:(q:Int)<(n1:Int):=by omega
      have t9:IntKind.i64.wrap ((q:Int)+1)=(q:Int)+1:=by simp only [IntKind.wrap_i64];omega
      have t1:(0:Int)≤(q:Int)∧(q:Int)<(n1:Int):=by omega
      have bd:Below wr.heap.size wr wr.drew:=(Below.refl _ _).drew
      have bW:=below_next hb bd
      have hS2:strB (vln L B q) (vbt L B q)=strB (pn q) (pb q):=by
       obtain ⟨g1,g2⟩:=Heach.out q hlt
       rw [g1]
       exact strB_congr g2
      rw [hS2] at z1
      obtain ⟨S,hS'⟩:∃ S,S=strB (pn q) (pb q):=⟨_,rfl⟩
      rw [←hS'] at z1 z2
      obtain ⟨p1,hp1⟩:∃ p,p=pv1 q:=⟨_,rfl⟩
      obtain ⟨p2,hp2⟩:∃ p,p=pv q:=⟨_,rfl⟩
      rw [←hp1] at r1 z1
      rw [←hp2] at r2 z2
      clear hS' hS2 hp1 hp2
      go_upto_region 10 with (fail)
      refine wp_region_held_drew (S:=fun u=>Below wr.drew.heap.size wr.drew u) (by kernel_rfl) (Below.refl _ _) (fun hS => ?_)
      refine tg 0 hS ?_
      (try simp only [pS])
      refine tg 1 hS ?_
      (try simp only [pS])
      refine tg 2 hS ?_
      (try simp only [pS])
      refine tc 3 hS (fun u hu=>r1 u (below_next bW hu)) ?_
      (try simp only [pS])
      refine tg 4 hS (v := .string S) ?_ (hy:=fun u hu=>exec_conv (.tmp 50) rfl rfl (z1 u (below_next bW hu)))
      (try simp only [pS])
      refine tg 5 hS ?_
      (try simp only [pS])
      refine tg 6 hS ?_
      (try simp only [pS])
      refine tg 7 hS ?_
      (try simp only [pS])
      refine tc 8 hS (fun u hu=>r2 u (below_next bW hu)) ?_
      (try simp only [pS])
      refine tg 9 hS (v := .string S) ?_ (hy:=fun u hu=>exec_conv (.tmp 55) rfl rfl (z2 u (below_next bW hu)))
      (try simp only [pS])
      refine tg 10 hS (v := .bool false) ?_
      (try simp only [pS])
      refine wpAnyH_done (by kernel_rfl) ?_ _
      go_wp2
      go_roundw
      case rel=>exact ⟨q+1,hlt,by go_num,bW⟩
      case measure=>simp [intOf];omega
    · obtain rfl:q=n1:=by omega
      have t0:¬(q:Int)<(q:Int):=by omega
      have hb':=below_next b2 hb
      have c3:=c3 wr hb'
      clear P1 P2 Heach Hall HP LV
      go_upto_region 13 with (go_at_call 37;refine c3.mono ?_;clear c3;rintro e w3 ⟨x3,d3,n3,pv3,rfl,hl3,ht3,hs3,b3⟩;(have hE3:=fun hk=>read_all lb ht3 hs3 hk);(have hn3:n3≤1048576:=Nat.le_trans (ht3.le lb) hm);clear ht3 hs3;(obtain ⟨k3,hk3⟩:∃ k,k=endD m (vst m bs n3):=⟨_,rfl⟩);rw [←hk3] at hE3 ⊢;clear hk3)
      by_cases g3:k3=0
      · obtain ⟨e1,e2,e3⟩:=hE3 g3
        have c4:=cVecs_good x3 n3 d3 pv3 (vln m bs) (vbt m bs) (bigN_of e2) hn3 (by have:=sum_vs (vln m bs) n3;omega) w3 (hl3.pieces fun i j=>vbt_lt lb i j)
        rw [←e1] at c4
        have hlt4:∀ j,vsB (vln m bs) (vbt m bs) n3 j<256:=allB_lt (fun i j=>cat_lt (fun j=>beN_lt _ _ j) (fun j=>vbt_lt lb i j) j) n3
        have hss:strB m (vsB (vln m bs) (vbt m bs) n3)=strB m bs:=strB_congr fun j hj=>(e3 j hj).symm
        generalize vsB (vln m bs) (vbt m bs) n3=C at *
        have hb3:=below_next hb' b3
        subst g3
        clear hE3 e1 e2 e3 hl3
        obtain ⟨SS,hSS⟩:∃ S,S=strB m bs:=⟨_,rfl⟩
        rw [←hSS] at y2 hss
        clear hSS
        go_wp2_with (first
         | (go_at_call 20;refine c4.mono ?_;clear c4;rintro e w4 ⟨a4,rfl,own4,b4⟩;(have y4:=(BytesIn.of_own own4).conv hlt4 w4 (Below.refl _ _));rw [hss] at y4;(have y5:=y2 w4 (below_next hb3 b4));clear y2)
         | (go_at_call 17;refine (num11_any _ _).mono ?_;rintro e wn ⟨rfl,hwn⟩;subst hwn)
         | (go_at_call 19;refine (knows11 _).mono ?_;rintro e w9 ⟨rfl,b9⟩))
        go_ret
        exact ⟨rfl,below_next hb3 (below_next b4 b9)⟩
      · clear hE3 y2 hl3
        have t3:decide (k3=0)=false:=decide_eq_false g3
        go_wp2_with (go_at_call 19;refine (knows11 _).mono ?_;rintro e w9 ⟨rfl,b9⟩)
        go_ret
        exact ⟨rfl,below_next hb' (below_next b3 b9)⟩
end Go.Proofs.Ytibgjjbnehhanaa
namespace Go.Proofs.Ytibgjjbnehhanaa
open Go.ChangeShapes Go.WideShapes Go.ChangeAt Go.RowKit
theorem ownKnobs:ownKnob Try.prog.godebug=none:=by kernel_rfl
theorem laidOut:laidOutB Try.prog=true:=by kernel_rfl
theorem cellsOfByte:Try.prog.cellsOf 5=1:=by kernel_rfl
theorem bytesOfByte:Try.prog.bytesOf 5=1:=by kernel_rfl
set_option maxRecDepth 20000 in
theorem open_bytes {H:Type} {enc:TypeId × Value→H} {W:World} {base:Nat} {v:Value} {d:DataW H} {ps:List MemPlace} (hval:Value.okWide Try.prog W .any base 22 v) (h:DataW.Trod enc Try.prog W 0 (fun _=>true) true 22 v d ps) :
 ∃ n bs,BytesIn W v n bs∧(∀ j,bs j<256)∧(n=0∨∃ elems spare,d = .slice elems spare∧elems.length=n):=by
 obtain ⟨a0,len,cap,rfl⟩:=okWide_slice Try.underlying22 hval
 obtain ⟨fuel,hf⟩:=h
 have hc:Cell.ok Try.prog W .any base 22 (.slice a0 len cap):=by
  unfold Value.okWide Cell.okWide at hval
  simp only [Try.underlying22] at hval
  exact hval
 rcases open_ints Try.underlying22 Try.underlying5 cellsOfByte hf with ⟨hcs,hx⟩ | ⟨a,len',cap',zs,hcs,_,hl,hm,hz,hx,hcell,hwz⟩
 · simp [Value.cells] at hcs
   obtain ⟨rfl,rfl,rfl⟩:=hcs
   exact ⟨0,fun _=>0,.inl ⟨none,rfl,rfl⟩,fun _=>Nat.zero_lt_succ _,.inl rfl⟩
 · simp [Value.cells] at hcs
   obtain ⟨rfl,rfl,rfl⟩:=hcs
   simp only [Prod.mk.injEq] at hx
   obtain ⟨rfl,rfl⟩:=hx
   simp only [if_true] at hz
   unfold Cell.ok at hc
   simp only [Try.underlying22] at hc
   obtain ⟨_,_,_,hs,row,cells,hsh,_⟩:=hc
   obtain ⟨b,off,spot⟩:=a
   subst hs
   have hbl:b<W.heap.size:=by
    rcases Nat.lt_or_ge b W.heap.size with h | h
    · exact h
    · unfold World.shape? at hsh
      rw [Array.getElem?_eq_none h] at hsh
      cases hsh
   have hn:∀ j,0≤zs.getD j 0∧zs.getD j 0<256:=fun j=>by
    rw [List.getD_eq_getElem?_getD]
    cases h:zs[j]? with
    | none=>simp
    | some x =>
     have:=hwz x (List.mem_of_getElem? h)
     have h0:(0:Int)≤x∧x≤255:=by simpa [Lit.wf,IntKind.min,IntKind.max,IntKind.signed,IntKind.bits] using this
     show 0≤x∧x<256
     omega
   refine ⟨len,fun j=>(zs.getD j 0).toNat,.inr ⟨b,off,cap,rfl,hbl,hl,fun j hj => ?_⟩,fun j => ?_,.inr ⟨_,_,rfl,?_⟩⟩
   · have h:=hcell j (by omega)
     rw [Addr.add_mid] at h
     rw [h,Int.toNat_of_nonneg (hn j).1]
   · have:=hn j
     show (zs.getD j 0).toNat<256
     omega
   · simp [lits];omega
theorem bytes_reach {H:Type} {ts:List TypeId} {ds:List (DataW H)} (hR:(DataW.weightsEach Try.prog ts ds).all (·≤reachBytes)=true) {j n:Nat} {d:DataW H} (ht:ts[j]? = some 22) (hd:ds[j]? = some d) (h:n=0∨∃ elems spare,d = .slice elems spare∧elems.length=n):n<140737488355000:=by
 rcases h with h | ⟨elems,spare,rfl,rfl⟩
 · omega
 · have:=sized_slice hR ht hd Try.underlying22
   rw [bytesOfByte] at this
   unfold reachBytes at this
   omega
end Go.Proofs.Ytibgjjbnehhanaa
