/- What the proof stands on: LPub, LShare, LClamps, RRow. -/
import Derived.Test.YtcgkajlehdgpoaaGreatDoorLProdM
import Derived.Test.YtcgkajlehdgpoaaGreatDoorRefOneM
import Derived.Test.YtcgkajlehdgpoaaGreatDoorZAb2M
namespace Go.Proofs.YtcgkajlehdgpoaaGreatDoor
open Go.RowKit
set_option maxRecDepth 20000 in
set_option maxHeartbeats 2000000 in
theorem public_good (v:Value) (bs:Nat→Nat) (hbs:∀ j,bs j<256) (w:World) (hv:BytesIn w v 32 bs):Calls Tryz.prog 30 #[v] w fun e w'=>∃ s,e = .returned (.tuple #[s,.int .i64 0])∧NewB w w' s 32 (byt (mulL (clB bs) 9))∧Below w.heap.size w w':=by
 have hS:=fun W=>fsmall_pos 9 (by decide) W
 have hB:=fun W=>bytes_any 9 W
 have hM:∀ u W,BytesIn W u 32 (byt 9)→Below w.heap.size w W→Calls Tryz.prog 53 #[v,u] W fun e w'=>∃ s,e = .returned (.tuple #[s,.int .i64 0])∧NewB W w' s 32 (byt (mulL (clB bs) 9))∧Below W.heap.size W w':=fun u W h hb=>by
  have:=lmul_good v u bs (byt 9) hbs (byt_all 9) W (hv.still hb) h
  rwa [nine_of] at this
 go_enter Tryz.func30,Tryz.ntmps30
 go_wp2_with (first
  | (go_at_call 54;refine (hS _).mono ?_;clear hS;rintro e w1 ⟨rfl,hb1⟩)
  | (go_at_call 55;refine (hB _).mono ?_;clear hB;rintro e w2 ⟨g,rfl,hg,hr,hb2⟩)
  | (go_at_call 53;refine (hM _ _ (.inr ⟨g,0,32,rfl,block_lt_of_cell (hr 0 (by decide)).1,Nat.le_refl _,fun j hj=>(hr j hj).1⟩) (below_next hb1 hb2)).mono ?_;clear hM;rintro e w3 ⟨s,rfl,hs,hb3⟩))
 obtain ⟨g3,rfl,hg3,hr3⟩:=hs
 have s1:=hb1.size
 have s2:=hb2.size
 exact bodyPost_ret (results_tmp2 rfl _ _ _) rfl ⟨_,rfl,⟨g3,rfl,by omega,hr3⟩,below_next (below_next hb1 hb2) hb3⟩
set_option maxRecDepth 20000 in
set_option maxHeartbeats 2000000 in
theorem allZero_yes (g:Nat) (w:World) (X:Nat→Nat) (hX:∀ j,j<32→X j=0) (hr:RowAt .u8 w g 0 32 X):Calls Tryz.prog 60 #[.slice (some ⟨g,0,none⟩) 32 32] w fun e w'=>e = .returned (.bool true)∧w'=w:=by
 go_enter Tryz.func60,Tryz.ntmps60
 go_wp2
 go_loopw [4,7] (fun _ i wr=>wr=w∧∃ k:Nat,k≤32∧i = .int .i64 (k:Int)) (fun _ i _=>32 - (intOf i).toNat)
 case atStart=>exact ⟨rfl,0,by decide,by go_num⟩
 case round =>
  obtain ⟨hw,k,hk,rfl⟩:=hrel
  rw [hw]
  clear hw
  by_cases hk2:k<32
  · have hc:=(hr k hk2).1
    rw [Nat.zero_add,hX k hk2] at hc
    have h1:(k:Int)<32:=by omega
    go_wp2
    go_roundw
    case rel=>exact ⟨trivial,k+1,by omega,by go_num⟩
    case measure=>simp [intOf];omega
  · obtain rfl:k=32:=by omega
    go_wp2
    go_ret
    exact ⟨rfl,rfl⟩
set_option maxRecDepth 20000 in
set_option maxHeartbeats 2000000 in
theorem allZero_no (g:Nat) (w:World) (X:Nat→Nat) (hX:∃ j,j<32∧X j≠0) (hr:RowAt .u8 w g 0 32 X):Calls Tryz.prog 60 #[.slice (some ⟨g,0,none⟩) 32 32] w fun e w'=>e = .returned (.bool false)∧w'=w:=by
 go_enter Tryz.func60,Tryz.ntmps60
 go_wp2
 go_loopw [4,7] (fun _ i wr=>wr=w∧∃ k:Nat,k≤32∧i = .int .i64 (k:Int)∧∃ j,k≤j∧j<32∧X j≠0) (fun _ i _=>32 - (intOf i).toNat)
 case atStart =>
  obtain ⟨j,h1,h2⟩:=hX
  exact ⟨rfl,0,by decide,by go_num,j,Nat.zero_le _,h1,h2⟩
 case round =>
  obtain ⟨hw,k,hk,rfl,j,hkj,hj,hne⟩:=hrel
  rw [hw]
  clear hw
  have hk2:k<32:=by omega
  have hc:=(hr k hk2).1
  rw [Nat.zero_add] at hc
  have h1:(k:Int)<32:=by omega
  by_cases h0:X k=0
  · rw [h0] at hc
    have hkj2:k+1≤j:=by
     rcases Nat.eq_or_lt_of_le hkj with h | h
     · exact absurd (h ▸ h0) hne
     · exact h
    go_wp2
    go_roundw
    case rel=>exact ⟨trivial,k+1,by omega,by go_num,j,hkj2,hj,hne⟩
    case measure=>simp [intOf];omega
  · have h2:¬((X k:Int)=0):=by omega
    go_wp2
    go_ret
    exact ⟨rfl,rfl⟩
end Go.Proofs.YtcgkajlehdgpoaaGreatDoor
namespace Go.Proofs.YtcgkajlehdgpoaaGreatDoor
open Go.RowKit
theorem shared_arg (v u:Value) (w:World) (hM:Calls Tryz.prog 53 #[v,u] w fun e w'=>e = .returned (.tuple #[.slice none 0 0,.int .i64 1])∧Below w.heap.size w w'):Calls Tryz.prog 35 #[v,u] w fun e w'=>e = .returned (.tuple #[.slice none 0 0,.int .i64 1])∧Below w.heap.size w w':=by
 go_enter Tryz.func35,Tryz.ntmps35
 go_wp2_with (go_at_call 53;refine hM.mono ?_;clear hM;rintro e w1 ⟨rfl,hb1⟩)
 exact bodyPost_ret (results_tmp2 rfl _ _ _) rfl ⟨rfl,hb1⟩
theorem shared_none (v u:Value) (N:Nat) (hN:N=0) (w:World) (hM:Calls Tryz.prog 53 #[v,u] w fun e w'=>∃ s,e = .returned (.tuple #[s,.int .i64 0])∧NewB w w' s 32 (byt N)∧Below w.heap.size w w'):Calls Tryz.prog 35 #[v,u] w fun e w'=>e = .returned (.tuple #[.slice none 0 0,.int .i64 30])∧Below w.heap.size w w':=by
 have hA:=fun g W=>allZero_yes g W (byt N) (fun j _=>by rw [hN];unfold byt;rw [Nat.zero_div])
 go_enter Tryz.func35,Tryz.ntmps35
 go_wp2_with (first
  | (go_at_call 53;refine hM.mono ?_;clear hM;rintro e w1 ⟨s,rfl,⟨g,rfl,hg,hr⟩,hb1⟩)
  | (go_at_call 60;refine (hA g _ hr).mono ?_;clear hA;rintro e w2 ⟨rfl,rfl⟩))
 exact bodyPost_ret (results_tmp2 rfl _ _ _) rfl ⟨rfl,hb1⟩
theorem byt_some {N:Nat} (h:N<115792089237316195423570985008687907853269984665640564039457584007913129639936) (h0:N≠0):∃ j,j<32∧byt N j≠0:=by
 refine Classical.byContradiction fun hn=>h0 ?_
 have hz:∀ j,j<32→byt N j=(fun _=>0:Nat→Nat) j:=fun j hj=>Classical.byContradiction fun hb=>hn ⟨j,hj,hb⟩
 have e:=ofB_byt32 N h
 rw [ofB_congr 32 hz] at e
 exact e.symm.trans (by kernel_rfl)
theorem shared_some (v u:Value) (N:Nat) (hN:N≠0) (hl:N<pF) (w:World) (hM:Calls Tryz.prog 53 #[v,u] w fun e w'=>∃ s,e = .returned (.tuple #[s,.int .i64 0])∧NewB w w' s 32 (byt N)∧Below w.heap.size w w'):Calls Tryz.prog 35 #[v,u] w fun e w'=>∃ s,e = .returned (.tuple #[s,.int .i64 0])∧NewB w w' s 32 (byt N)∧Below w.heap.size w w':=by
 have hA:=fun g W=>allZero_no g W (byt N) (byt_some (Nat.lt_trans hl (by decide)) hN)
 go_enter Tryz.func35,Tryz.ntmps35
 go_wp2_with (first
  | (go_at_call 53;refine hM.mono ?_;clear hM;rintro e w1 ⟨s,rfl,⟨g,rfl,hg,hr⟩,hb1⟩)
  | (go_at_call 60;refine (hA g _ hr).mono ?_;clear hA;rintro e w2 ⟨rfl,rfl⟩))
 exact bodyPost_ret (results_tmp2 rfl _ _ _) rfl ⟨_,rfl,⟨g,rfl,hg,hr⟩,hb1⟩
end Go.Proofs.YtcgkajlehdgpoaaGreatDoor
namespace Go.Proofs.YtcgkajlehdgpoaaGreatDoor
open Go.RowKit
theorem and_248:∀ b:Nat,b<256→bits .and .u8 (b:Int) 248=((b / 8*8:Nat):Int):=by decide +kernel
theorem and_127:∀ b:Nat,b<256→bits .and .u8 (b:Int) 127=((b%128:Nat):Int):=by decide +kernel
def NewC (w w':World) (v:Value) (n:Nat) (X:Nat→Nat):Prop:=∃ g cap,v = .slice (some ⟨g,0,none⟩) n cap∧n≤cap∧w.heap.size≤g∧RowAt .u8 w' g 0 n X
theorem NewC.bytes {w w':World} {v:Value} {n:Nat} {X:Nat→Nat} (h:NewC w w' v n X) (h0:0<n):BytesIn w' v n X:=by
 obtain ⟨g,cap,rfl,hc,-,hr⟩:=h
 exact .inr ⟨g,0,cap,rfl,block_lt_of_cell (hr 0 h0).1,hc,fun j hj=>(hr j hj).1⟩
set_option maxRecDepth 20000 in
set_option maxHeartbeats 2000000 in
theorem rclamp_good (v:Value) (bs:Nat→Nat) (hbs:∀ j,bs j<256) (w:World) (hv:BytesIn w v 32 bs):Calls Tryz.prog 79 #[v] w fun e w'=>∃ s,e = .returned (.tuple #[s,.int .i64 0])∧NewC w w' s 32 (clB bs)∧Below w.heap.size w w':=by
 obtain ⟨xo,cx,rfl,hxn,-,hsrc⟩:=hv.src
 clear hv
 have src0:=hsrc _ ((Below.refl _ _).alloc (Nat.le_refl _) (.cells #[] 5))
 clear hsrc
 have e1:=and_248 (bs 0) (hbs 0)
 have e2:=and_127 (bs 31) (hbs 31)
 have e3:=or_64 (bs 31%128) (by omega)
 obtain ⟨b0,hb0⟩:∃ b:Int,((bs 0 / 8*8:Nat):Int)=b:=⟨_,rfl⟩
 obtain ⟨b1,hb1'⟩:∃ b:Int,((bs 31%128:Nat):Int)=b:=⟨_,rfl⟩
 obtain ⟨b3,hb3⟩:∃ b:Int,((bs 31%128%64+64:Nat):Int)=b:=⟨_,rfl⟩
 rw [hb0] at e1
 rw [hb1'] at e2 e3
 rw [hb3] at e3
 have H0:=Hid.mk' hb0
 have H3:=Hid.mk' hb3
 clear hb0 hb1' hb3
 go_enter Tryz.func79,Tryz.ntmps79
 go_wp2_with (at_builtin;refine wpList_append_empty rfl (.tmp 8) (.tmp 9) rfl w.heap.size bs _ rfl rfl xo 32 cx rfl src0 hxn (by omega) (Nat.le_refl _) ?_;intro v1 w1 own1 hb1;clear src0;(obtain ⟨g,cap,hv1,hg,hgl,hcap,hrow⟩:∃ g cap,v1 = .slice (some ⟨g,0,none⟩) 32 cap∧w.heap.size≤g∧g<w1.heap.size∧32≤cap∧RowAt .u8 w1 g 0 32 bs:=own1.form.resolve_left (fun h=>by omega));subst hv1;clear own1;(have c0:=(hrow 0 (by decide)).1);(have f0:=(hrow 0 (by decide)).2);(have c1:=(hrow 31 (by decide)).1);(have f1:=(hrow 31 (by decide)).2);rw [Nat.zero_add] at c0 f0 c1 f1)
 have r1:=hrow.set (i:=0) (by decide) (v:=b0) H0.out.symm
 rw [Nat.zero_add] at r1
 have r3:=r1.set (i:=31) (by decide) (v:=b3) H3.out.symm
 rw [Nat.zero_add] at r3
 refine bodyPost_ret (results_tmp2 rfl _ _ _) rfl ⟨_,rfl,⟨g,cap,rfl,hcap,hg,r3.congr (fun j hj => ?_)⟩,?_⟩
 · unfold upd clB
   by_cases h31:j=31
   · rw [if_pos h31,if_neg (by omega),if_pos h31];omega
   · simp only [if_neg h31]
 · exact below_setCells hg [_] 31 _ (below_setCells hg [_] 0 _ hb1)
end Go.Proofs.YtcgkajlehdgpoaaGreatDoor
namespace Go.Proofs.YtcgkajlehdgpoaaGreatDoor
open Go.RowKit
theorem Rep.cast {L:Nat→Int} {x y:Nat} (h:Rep L x) (e:x%pF=y%pF):Rep L y:=⟨h.dig,by rw [h.val,e]⟩
structure Rw (L:Nat→Int) (x:Nat):Prop where
 dig:Dig 65725 L
 val:valR L 16%(pF:Int)=((x%pF:Nat):Int)
theorem Rep.wide {L:Nat→Int} {x:Nat} (h:Rep L x):Rw L x:=⟨h.dig.mono (by decide),h.val⟩
theorem Rw.bd {L:Nat→Int} {x:Nat} (h:Rw L x):∀ j,j<16→-131072≤L j∧L j≤131072:=fun j hj=>by have:=h.dig.all (by decide) j hj;omega
theorem Rw.cast {L:Nat→Int} {x y:Nat} (h:Rw L x) (e:x%pF=y%pF):Rw L y:=⟨h.dig,by rw [h.val,e]⟩
theorem rw_times {L M:Nat→Int} {x y:Nat} (hL:Rw L x) (hM:Rw M y):Rep (timesL L M) (fmul x y):=by
 have hbd:=tP_bd L M hL.bd hM.bd 15 16 (by decide) (Nat.le_refl _)
 have hF:∀ j,j<16→-171523813933056≤foldT (tP L M 15 16) 16 j∧foldT (tP L M 15 16) 16 j≤171523813933056:=fun j hj=>by
  have h1:=hbd j
  have h2:=hbd (j+16)
  unfold foldT
  rw [if_pos hj]
  split <;> omega
 refine ⟨(carry_fine _ ((carry_dig _ 171523813933056 (by decide) hF).mono (by decide))).1,?_⟩
 unfold timesL fmul
 rw [valR_carry,valR_carry,foldT_val,tP_all,show ∀ a b c d P:Int,a - 2*P*d - b*2*P - c*2*P=a+P*(-(2*d) - b*2 - c*2) from fun a b c d P=>by
  rw [Int.mul_sub,Int.mul_sub,Int.mul_neg,Int.mul_comm P (b*2),Int.mul_comm P (c*2),Int.mul_comm 2 P,Int.mul_assoc P 2 d];omega,Int.add_mul_emod_self_left,Int.mul_emod,hL.val,hM.val,←Int.natCast_mul,nat_mod,←Nat.mul_mod,Nat.mod_mod]
def plusL (L M:Nat→Int):Nat→Int:=carryL (fun j=>L j+M j)
def minusL (L M:Nat→Int):Nat→Int:=carryL (fun j=>L j - M j)
theorem rep_plus {L M:Nat→Int} {x y:Nat} (hL:Rep L x) (hM:Rep M y):Rw (plusL L M) (fadd x y):=by
 have hb:∀ j,j<16→-131146≤L j+M j∧L j+M j≤131146:=fun j hj=>by
  have h1:=hL.dig.all (by decide) j hj
  have h2:=hM.dig.all (by decide) j hj
  omega
 refine ⟨(carry_dig _ 131146 (by decide) hb).mono (by decide),?_⟩
 have e:valR (fun j=>L j+M j) 16=valR L 16+valR M 16:=by
  have:=valR_lin L M 1 16
  simp only [Int.one_mul] at this
  exact this
 unfold plusL fadd
 rw [valR_carry,e,show ∀ a b P:Int,a - b*2*P=a+P*(-(b*2)) from fun a b P=>by rw [Int.mul_neg,Int.mul_comm P];omega,Int.add_mul_emod_self_left,Int.add_emod,hL.val,hM.val,←Int.natCast_add,nat_mod,←Nat.add_mod,Nat.mod_mod]
theorem rep_minus {L M:Nat→Int} {x y:Nat} (hL:Rep L x) (hM:Rep M y) (hy:y<pF):Rw (minusL L M) (fsub x y):=by
 have hb:∀ j,j<16→-131146≤L j - M j∧L j - M j≤131146:=fun j hj=>by
  have h1:=hL.dig.all (by decide) j hj
  have h2:=hM.dig.all (by decide) j hj
  omega
 refine ⟨(carry_dig _ 131146 (by decide) hb).mono (by decide),?_⟩
 have e:valR (fun j=>L j - M j) 16=valR L 16 - valR M 16:=by
  have:=valR_lin L M (-1) 16
  simp only [Int.neg_mul,Int.one_mul,←Int.sub_eq_add_neg] at this
  exact this
 unfold minusL fsub
 rw [valR_carry,e,show ∀ a b P:Int,a - b*2*P=a+P*(-(b*2)) from fun a b P=>by rw [Int.mul_neg,Int.mul_comm P];omega,Int.add_mul_emod_self_left,Int.sub_emod,hL.val,hM.val,←nat_mod,←nat_mod,←Int.sub_emod,Nat.mod_mod,←nat_mod,show ((x+pF - y:Nat):Int)=((x:Int) - (y:Int))+(pF:Int)*1 by omega,Int.add_mul_emod_self_left]
def i16 (L:Nat→Int):List Value:=intsI 16 L
def i32 (X Z:Nat→Int):List Value:=i16 X ++ i16 Z
def rV (L:Nat→Int):Value := .agg (i16 L).toArray
def pV (X Z:Nat→Int):Value := .agg (i32 X Z).toArray
theorem i16_len (L:Nat→Int):(i16 L).length=16:=intsI_len 16 L
theorem i32_len (X Z:Nat→Int):(i32 X Z).length=32:=by unfold i32;rw [List.length_append,i16_len,i16_len]
def zP:Array Value:=Array.replicate 32 (.int .i64 0)
theorem zeroP (w:World):Sem.run Tryz.prog (zeroValue 118) w = .ok (.agg zP) w:=by kernel_rfl
theorem infoP:(Tryz.prog.info? 118).map (·.size)=some 32:=by kernel_rfl
theorem zI_eq:zI=(i16 (fun _=>0)).toArray:=by kernel_rfl
theorem zP_eq:zP=(i32 (fun _=>0) (fun _=>0)).toArray:=by kernel_rfl
theorem freshR (w:World):∃ w' g,w.alloc (.cells zI 114)=w'∧w.heap.size=g∧Below w.heap.size w w'∧RW w' g 0 (i16 (fun _=>0)):=by
 refine ⟨_,_,rfl,rfl,(Below.refl _ _).alloc (Nat.le_refl _) _,?_⟩
 rw [zI_eq];exact RW.fresh w _ _
theorem freshP (w:World):∃ w' g,w.alloc (.cells zP 118)=w'∧w.heap.size=g∧Below w.heap.size w w'∧RW w' g 0 (i32 (fun _=>0) (fun _=>0)):=by
 refine ⟨_,_,rfl,rfl,(Below.refl _ _).alloc (Nat.le_refl _) _,?_⟩
 rw [zP_eq];exact RW.fresh w _ _
theorem infoI (L:Nat→Int):(Tryz.prog.info? 114).map (·.size)=some (i16 L).length:=infoRL L
theorem infoIA (L:Nat→Int):(Tryz.prog.info? 114).map (·.size)=some (i16 L).toArray.size:=infoRA L
theorem oneI (L:Nat→Int):(i16 L).toArray.all (·.oneCell')=true:=oneR L
theorem infoQ (X Z:Nat→Int):(Tryz.prog.info? 118).map (·.size)=some (i32 X Z).length:=by rw [i32_len];exact infoP
theorem infoQA (X Z:Nat→Int):(Tryz.prog.info? 118).map (·.size)=some (i32 X Z).toArray.size:=by rw [List.size_toArray,i32_len];exact infoP
theorem oneQ (X Z:Nat→Int):(i32 X Z).toArray.all (·.oneCell')=true:=all_oneCell_toArray (fun v hv=>by
 rcases List.mem_append.1 hv with h | h
 · exact intsI_one 16 X v h
 · exact intsI_one 16 Z v h)
theorem ref_store {o:Oper} {a:Act} {cur V:World} {K:Act→World→Prop} {Q:Exit→Act→World→Prop} (x y:Operand) (ho:o.op = .store 114 x y) (g:Nat) (M L:Nat→Int) (hx:a.eval x = .pointer (some ⟨g,0,none⟩)) (hy:a.eval y=rV L) (r:RW cur g 0 (i16 M)) (S:Below V.heap.size V cur) (G:V.heap.size≤g)
 (h:∀ W1,RW W1 g 0 (i16 L)→Below V.heap.size V W1→K (a.put o.dst undef) W1):o.wp Tryz.prog a cur K Q :=
 wp_store_mid 114 x y ho g 0 (i16 L).toArray hx hy (by rw [List.size_toArray,i16_len];have:=r.there;rwa [i16_len] at this) (infoIA L) (oneI L) (h _ (r.stored (i16 L) (by rw [i16_len,i16_len])) (below_setCells G _ _ _ S))
theorem pair_store {o:Oper} {a:Act} {cur V:World} {K:Act→World→Prop} {Q:Exit→Act→World→Prop} (x y:Operand) (ho:o.op = .store 118 x y) (g:Nat) (M M' X Z:Nat→Int) (hx:a.eval x = .pointer (some ⟨g,0,none⟩)) (hy:a.eval y=pV X Z) (r:RW cur g 0 (i32 M M')) (S:Below V.heap.size V cur) (G:V.heap.size≤g)
 (h:∀ W1,RW W1 g 0 (i32 X Z)→Below V.heap.size V W1→(∀ b p cs,b≠g→RW cur b p cs→RW W1 b p cs)→K (a.put o.dst undef) W1):o.wp Tryz.prog a cur K Q :=
 wp_store_mid 118 x y ho g 0 (i32 X Z).toArray hx hy (by rw [List.size_toArray,i32_len];have:=r.there;rwa [i32_len] at this) (infoQA X Z) (oneQ X Z) (h _ (r.stored (i32 X Z) (by rw [i32_len,i32_len])) (below_setCells G _ _ _ S) (fun _ _ _ hne hr=>hr.far g 0 _ (.inl hne)))
theorem builtP (X Z:Nat→Int):Tryz.prog.built 118 [(0,rV X),(1,rV Z)]=some (i32 X Z).toArray:=by kernel_rfl
end Go.Proofs.YtcgkajlehdgpoaaGreatDoor
