/- What the proof stands on: R8B, R8C. -/
import Derived.Test.YtbbikhlbkpjpjaaGreatDoorBaseM
import Derived.Test.YtbbikhlbkpjpjaaGreatDoorR8AM
namespace Go.Proofs.YtbbikhlbkpjpjaaGreatDoor
open Go.RowKit Go.Shelf
def NoLf (rv:Value) (i:Int) (w:World):Prop:=∀ V,Below w.heap.size w V→Calls Tryz.prog 33 #[rv,.int .i64 i] V fun e w'=>e = .returned (.bool false)∧w'=V
theorem no_nil7 (i:Int) (w:World):NoLf (.pointer none) i w:=fun V _=>rhas_nil i V
theorem no_zero7 (tb:Nat) (i:Int) (w:World) (hc:w.cell? ⟨tb,0,none⟩=some (.int .i64 0)):NoLf (pA tb 0) i w:=fun V hV=>rhas_zero tb i V ((hV.cell (p:=⟨tb,0,none⟩) (block_lt_of_cell hc)).trans hc)
set_option maxRecDepth 20000 in
set_option maxHeartbeats 4000000 in
theorem rSure_any (tb sb rb kb:Nat) (S:Rs) (i:Int) (t:Bool) (hi:0≤i∧i<(S.n:Int)) (w:World) (h:RsAt w tb sb rb kb S):Calls Tryz.prog 16 #[pA tb 0,.int .i64 i,.bool t] w fun e w'=>e = .returned (.tuple #[.int .i64 (S.su (i,t):Int),.int .i64 0])∧Below w.heap.size w w':=by
 have c1:=rhas_any tb S.n i (by omega) w h.c0
 have e:(decide (0≤i) && decide (i<(S.n:Int)))=true:=by simp;omega
 rw [e] at c1
 have c2:=rsure_any tb sb rb kb S i t w h
 generalize S.su (i,t)=su at *
 clear h e hi
 go_enter Tryz.func16,Tryz.ntmps16
 go_wp2_with (first
  | (go_at_call 33;refine c1.mono ?_;clear c1;rintro e w1 ⟨rfl,hw1⟩;obtain rfl:=hw1.symm)
  | (go_at_call 34;refine c2.mono ?_;clear c2;rintro e w2 ⟨rfl,hb2⟩))
 go_ret2
 exact ⟨rfl,hb2⟩
theorem ln_new (w:World) (i:Int) (t:Bool):Below w.heap.size w ((w.alloc (.cells #[.int .i64 0,.bool false] 77)).setCells w.heap.size 0 [.int .i64 i,.bool t])∧RW ((w.alloc (.cells #[.int .i64 0,.bool false] 77)).setCells w.heap.size 0 [.int .i64 i,.bool t]) w.heap.size 0 [.int .i64 i,.bool t]∧((w.alloc (.cells #[.int .i64 0,.bool false] 77)).setCells w.heap.size 0 [.int .i64 i,.bool t]).heap.size=w.heap.size+1∧(w.alloc (.cells #[.int .i64 0,.bool false] 77)).there w.heap.size 0 (#[.int .i64 i,.bool t]:Array Value).size :=
 ⟨below_setCells (Nat.le_refl _) _ _ _ ((Below.refl _ _).alloc (Nat.le_refl _) _),(RW.fresh w [.int .i64 0,.bool false] 77).stored _ rfl,by rw [(setCells_same _ _ _ _).2.2.2];simp,(RW.fresh w [.int .i64 0,.bool false] 77).there⟩
theorem one_ln (i:Int) (t:Bool):(#[.int .i64 i,.bool t]:Array Value).all (·.oneCell')=true:=by simp [Value.oneCell']
theorem info_lnA (i:Int) (t:Bool):(Tryz.prog.info? 77).map (·.size)=some (#[Value.int .i64 i,.bool t]:Array Value).size:=by kernel_rfl
def RfIs (rv:Value) (i:Int) (t:Bool) (g r:Int) (w:World):Prop:=∀ V,Below w.heap.size w V→Calls Tryz.prog 32 #[rv,.agg #[.int .i64 i,.bool t],.int .i64 g] V fun e w'=>e = .returned (.int .i64 r)∧Below V.heap.size V w'
theorem rf_is {tb sb rb kb:Nat} {S:Rs} (hn:0<S.n) (i:Int) (t:Bool) (g:Int) (hsu:S.su (i,t)≤4294967296) {w:World} (h:RsAt w tb sb rb kb S):RfIs (pA tb 0) i t g (S.rf (i,t) g) w:=fun V hV=>rrefusal_any tb sb rb kb S hn i t g hsu V (h.still hV)
set_option maxRecDepth 20000 in
set_option maxHeartbeats 4000000 in
theorem rKey_no (rv:Value) (i:Int) (t:Bool) (g r:Int) (hr:r≠0) (w:World) (c:RfIs rv i t g r w):Calls Tryz.prog 15 #[rv,.int .i64 i,.bool t,.int .i64 g] w fun e w'=>e = .returned (.tuple #[.slice none 0 0,.slice none 0 0,.int .i64 r])∧Below w.heap.size w w':=by
 obtain ⟨b1,k1,s1,hth1⟩:=ln_new w i t
 obtain ⟨W1,hW1⟩:∃ W,W=(w.alloc (.cells #[.int .i64 0,.bool false] 77)).setCells w.heap.size 0 [.int .i64 i,.bool t]:=⟨_,rfl⟩
 rw [←hW1] at b1 k1 s1
 have hiN:=info_lnA i t
 have hoN:=one_ln i t
 have hiL:=infoLn i t
 have HW1:=Hid.mk' hW1
 have cR:=c W1 b1
 clear hW1 c
 go_enter Tryz.func15,Tryz.ntmps15
 go_wp2_with (first
  | (refine wpList_store_mid rfl 77 _ _ rfl w.heap.size 0 #[.int .i64 i,.bool t] rfl rfl ?_ ?_ ?_ ?_;(with_reducible exact hth1);exact hiN;exact hoN;rw [List.toList_toArray,←HW1.out];clear HW1 hth1 hiN hoN)
  | (refine wpList_load_mid rfl 77 _ rfl w.heap.size 0 rfl [.int .i64 i,.bool t] _ k1.range Tryz.underlying77 rfl hiL ?_)
  | (go_at_call 32;refine cR.mono ?_;clear cR;rintro e w2 ⟨rfl,hb2⟩))
 go_ret3
 exact ⟨rfl,below_next b1 hb2⟩
set_option maxRecDepth 20000 in
set_option maxHeartbeats 4000000 in
theorem rUse_no (rv:Value) (i:Int) (t:Bool) (g r:Int) (hr:r≠0) (w:World) (c:RfIs rv i t g r w):Calls Tryz.prog 18 #[rv,.int .i64 i,.bool t,.int .i64 g] w fun e w'=>e = .returned (.int .i64 r)∧Below w.heap.size w w':=by
 obtain ⟨b1,k1,s1,hth1⟩:=ln_new w i t
 obtain ⟨W1,hW1⟩:∃ W,W=(w.alloc (.cells #[.int .i64 0,.bool false] 77)).setCells w.heap.size 0 [.int .i64 i,.bool t]:=⟨_,rfl⟩
 rw [←hW1] at b1 k1 s1
 have hiN:=info_lnA i t
 have hoN:=one_ln i t
 have hiL:=infoLn i t
 have HW1:=Hid.mk' hW1
 have cR:=c W1 b1
 clear hW1 c
 go_enter Tryz.func18,Tryz.ntmps18
 go_wp2_with (first
  | (refine wpList_store_mid rfl 77 _ _ rfl w.heap.size 0 #[.int .i64 i,.bool t] rfl rfl ?_ ?_ ?_ ?_;(with_reducible exact hth1);exact hiN;exact hoN;rw [List.toList_toArray,←HW1.out];clear HW1 hth1 hiN hoN)
  | (refine wpList_load_mid rfl 77 _ rfl w.heap.size 0 rfl [.int .i64 i,.bool t] _ k1.range Tryz.underlying77 rfl hiL ?_)
  | (go_at_call 32;refine cR.mono ?_;clear cR;rintro e w2 ⟨rfl,hb2⟩))
 go_ret
 exact ⟨rfl,below_next b1 hb2⟩
def KyIs (S:Rs) (i:Nat) (t:Bool) (G:Nat) (A B:Nat→Nat):Prop:=∀ (tb sb rb kb:Nat) (V:World),RsAt V tb sb rb kb S→TabAt V→DbT V →
 Calls Tryz.prog 30 #[pA tb 0,.agg #[.int .i64 (i:Int),.bool t],.int .i64 (G:Int)] V fun e w'=>e = .returned (kyV A B)∧Below V.heap.size V w'
theorem ky_kept {S:Rs} {i:Nat} {t:Bool} {G:Nat} {A B:Nat→Nat} (h:S.kp (((i:Int),t),(G:Int))=some (A,B)):KyIs S i t G A B:=fun tb sb rb kb V hV _ _=>rkeys_some tb sb rb kb S i t G A B h V hV
theorem ky_far {S:Rs} {i:Nat} {t:Bool} {G:Nat} (hG:G<4294967296) (h:S.kp (((i:Int),t),(G:Int))=none) {g:Nat} {X:Nat→Nat} (hX:∀ j,X j<256) (hg:g≤G) (hst:StOk S i t g X):KyIs S i t G (keyS G (rcS g X (G - g))) (nonS G (rcS g X (G - g))):=fun tb sb rb kb V hV hT hD=>rkeys_none tb sb rb kb S i t G hG h g X hX hg hst V hV hT hD
theorem st_some {S:Rs} {i:Nat} {t:Bool} {g:Nat} {X:Nat→Nat} (h:S.rt ((i:Int),t)=some (g,X)):StOk S i t g X:=fun tb sb rb kb V hV _ _=>rstand_some tb sb rb kb S i t g X h V hV
theorem st_none {S:Rs} {i:Nat} {t:Bool} (h:S.rt ((i:Int),t)=none) {K:Nat} {xs:Nat→Nat} {ss:Nat→Nat→Nat} (hok:DnOk S i K xs ss):StOk S i t 0 (fstS (ss (K - 1)) t):=fun tb sb rb kb V hV hT hD=>rstand_none tb sb rb kb S i t h K xs ss hok V hV hT hD
set_option maxRecDepth 20000 in
set_option maxHeartbeats 4000000 in
theorem rKey_ok (tb sb rb kb:Nat) (S:Rs) (i:Nat) (t:Bool) (G:Nat) (A B:Nat→Nat) (w:World) (c:RfIs (pA tb 0) (i:Int) t (G:Int) 0 w) (hK:KyIs S i t G A B) (h:RsAt w tb sb rb kb S) (hT:TabAt w) (hD:DbT w) :
 Calls Tryz.prog 15 #[pA tb 0,.int .i64 (i:Int),.bool t,.int .i64 (G:Int)] w fun e w'=>∃ q,e = .returned (.tuple #[.slice (some ⟨q,0,none⟩) 16 16,.slice (some ⟨q,16,none⟩) 12 12,.int .i64 0])∧w.heap.size≤q∧RW w' q 0 (kyL A B)∧Below w.heap.size w w':=by
 obtain ⟨b1,k1,s1,hth1⟩:=ln_new w (i:Int) t
 obtain ⟨W1,hW1⟩:∃ W,W=(w.alloc (.cells #[.int .i64 0,.bool false] 77)).setCells w.heap.size 0 [.int .i64 (i:Int),.bool t]:=⟨_,rfl⟩
 rw [←hW1] at b1 k1 s1
 have hiN:=info_lnA (i:Int) t
 have hoN:=one_ln (i:Int) t
 have hiL:=infoLn (i:Int) t
 have HW1:=Hid.mk' hW1
 have cR:=c W1 b1
 have cKf:=fun V (hV:Below W1.heap.size W1 V)=>hK tb sb rb kb V (h.still (below_next b1 hV)) (hT.still (below_next b1 hV)) (hD.keep (below_next b1 hV))
 clear hW1 c hK h hT hD
 go_enter Tryz.func15,Tryz.ntmps15
 go_upto_region 5 with (first
  | (refine wpList_store_mid rfl 77 _ _ rfl w.heap.size 0 #[.int .i64 (i:Int),.bool t] rfl rfl ?_ ?_ ?_ ?_;(with_reducible exact hth1);exact hiN;exact hoN;rw [List.toList_toArray,←HW1.out];clear HW1 hth1 hiN hoN)
  | (refine wpList_load_mid rfl 77 _ rfl w.heap.size 0 rfl [.int .i64 (i:Int),.bool t] _ k1.range Tryz.underlying77 rfl hiL ?_)
  | (go_at_call 32;refine cR.mono ?_;clear cR;rintro e w2 ⟨rfl,hb2⟩))
 have k2:=k1.still hb2
 have cK:=cKf w2 hb2
 have bw2:=below_next b1 hb2
 clear cKf k1 hb2
 have hiA:=infoKyA A B
 have hoA:=oneKy A B
 obtain ⟨KK,hKK⟩:∃ KK,KK=kyL A B:=⟨_,rfl⟩
 unfold kyV at cK
 rw [←hKK] at cK hiA hoA
 have HKa:Hid (KK.toArray.size=28):=Hid.mk' (by rw [hKK];exact ky_size _ _)
 have HKK:=Hid.mk' hKK
 clear hKK
 go_upto_region 6 with (first
  | (refine wpList_load_mid rfl 77 _ rfl w.heap.size 0 rfl [.int .i64 (i:Int),.bool t] _ k2.range Tryz.underlying77 rfl hiL ?_)
  | (go_at_call 30;refine cK.mono ?_;clear cK;rintro e w3 ⟨rfl,hb3⟩;have kz3:=ky_zero w3;(have hth3:(w3.alloc (.cells #[.int .u8 0,.int .u8 0,.int .u8 0,.int .u8 0,.int .u8 0,.int .u8 0,.int .u8 0,.int .u8 0,.int .u8 0,.int .u8 0,.int .u8 0,.int .u8 0,.int .u8 0,.int .u8 0,.int .u8 0,.int .u8 0,.int .u8 0,.int .u8 0,.int .u8 0,.int .u8 0,.int .u8 0,.int .u8 0,.int .u8 0,.int .u8 0,.int .u8 0,.int .u8 0,.int .u8 0,.int .u8 0] 86)).there w3.heap.size 0 KK.toArray.size:=(by have h:=kz3.there;rw [kyL_len] at h;rw [HKa.out];exact h)))
  | (refine wpList_store_mid rfl 86 _ _ rfl w3.heap.size 0 KK.toArray rfl rfl ?_ ?_ ?_ ?_;(with_reducible exact hth3);exact hiA;exact hoA;rw [List.toList_toArray]))
 have rz:=kz3.stored KK (by rw [HKK.out,kyL_len,kyL_len])
 have bz:=below_setCells (B:=w3.heap.size) (b:=w3.heap.size) (Nat.le_refl _) KK 0 _ ((Below.refl _ _).alloc (Nat.le_refl _) (.cells #[.int .u8 0,.int .u8 0,.int .u8 0,.int .u8 0,.int .u8 0,.int .u8 0,.int .u8 0,.int .u8 0,.int .u8 0,.int .u8 0,.int .u8 0,.int .u8 0,.int .u8 0,.int .u8 0,.int .u8 0,.int .u8 0,.int .u8 0,.int .u8 0,.int .u8 0,.int .u8 0,.int .u8 0,.int .u8 0,.int .u8 0,.int .u8 0,.int .u8 0,.int .u8 0,.int .u8 0,.int .u8 0] 86))
 generalize (w3.alloc (.cells #[.int .u8 0,.int .u8 0,.int .u8 0,.int .u8 0,.int .u8 0,.int .u8 0,.int .u8 0,.int .u8 0,.int .u8 0,.int .u8 0,.int .u8 0,.int .u8 0,.int .u8 0,.int .u8 0,.int .u8 0,.int .u8 0,.int .u8 0,.int .u8 0,.int .u8 0,.int .u8 0,.int .u8 0,.int .u8 0,.int .u8 0,.int .u8 0,.int .u8 0,.int .u8 0,.int .u8 0,.int .u8 0] 86)).setCells w3.heap.size 0 KK=W4 at *
 have bw4:=below_next (below_next bw2 hb3) bz
 have hq:w.heap.size≤w3.heap.size:=(below_next bw2 hb3).size
 simp only [putN]
 have hdr:Below W4.heap.size W4 W4.drew:=(Below.refl _ _).drew
 replace rz:=rz.still hdr
 replace bw4:=below_next bw4 hdr
 clear hdr kz3 hth3 bz
 refine wp_region_noPanic ?_
 refine wp_region_held_drew (S:=fun u=>Below W4.drew.heap.size W4.drew u) (by kernel_rfl) (Below.refl _ _) (fun hS => ?_)
 generalize W4.drew=V at *
 refine tg 0 hS (v:=pA w3.heap.size 0) ?_
 (try simp only [pS])
 refine tg 1 hS (v := .slice (some ⟨w3.heap.size,0,none⟩) 16 16) (hy:=by intro u hu;exact (show (execOp _ _).run Tryz.prog u=_ from by kernel_rfl)) ?_
 (try simp only [pS])
 refine tg 2 hS (v:=pA w3.heap.size 16) ?_
 (try simp only [pS])
 refine tg 3 hS (v := .slice (some ⟨w3.heap.size,16,none⟩) 12 12) (hy:=by intro u hu;exact (show (execOp _ _).run Tryz.prog u=_ from by kernel_rfl)) ?_
 (try simp only [pS])
 refine tg 4 hS ?_
 (try simp only [pS])
 refine tg 5 hS ?_
 (try simp only [pS])
 refine tg 6 hS ?_
 (try simp only [pS])
 refine wpAnyH_done (by kernel_rfl) ?_ _
 refine NoPanic.normal ?_
 go_wp2
 go_ret3
 rw [HKK.out] at rz
 exact ⟨w3.heap.size,rfl,hq,rz,bw4⟩
set_option maxRecDepth 20000 in
set_option maxHeartbeats 4000000 in
theorem rUse_far (tb sb rb kb:Nat) (S:Rs) (i:Nat) (t:Bool) (G:Nat) (w:World) (c:RfIs (pA tb 0) (i:Int) t (G:Int) 0 w) (hsu:S.su ((i:Int),t)≤G) (S1:Rs) (ho:OnOk S i S1) (a:Nat) (X:Nat→Nat) (hX:∀ j,X j<256) (hrt:S1.rt ((i:Int),t)=some (a,X)) (haG:a≤G) (hG:G<4294967296) (h:RsAt w tb sb rb kb S) (hT:TabAt w) (hD:DbT w) :
 Calls Tryz.prog 18 #[pA tb 0,.int .i64 (i:Int),.bool t,.int .i64 (G:Int)] w fun e w'=>e = .returned (.int .i64 0)∧RsAt w' tb sb rb kb (paS S1 ((i:Int),t) a X G)∧But (fun b=>b=sb∨b=rb∨b=kb) w w':=by
 obtain ⟨b1,k1,s1,hth1⟩:=ln_new w (i:Int) t
 obtain ⟨W1,hW1⟩:∃ W,W=(w.alloc (.cells #[.int .i64 0,.bool false] 77)).setCells w.heap.size 0 [.int .i64 (i:Int),.bool t]:=⟨_,rfl⟩
 rw [←hW1] at b1 k1 s1
 have hiN:=info_lnA (i:Int) t
 have hoN:=one_ln (i:Int) t
 have hiL:=infoLn (i:Int) t
 have HW1:=Hid.mk' hW1
 have cR:=c W1 b1
 have cSf:=fun V (hV:Below W1.heap.size W1 V)=>rsure_any tb sb rb kb S (i:Int) t V (h.still (below_next b1 hV))
 have cPf:=fun V (hV:Below W1.heap.size W1 V)=>rpass_any tb sb rb kb S i t S1 ho a X hX hrt G haG hG V (h.still (below_next b1 hV)) (hT.still (below_next b1 hV)) (hD.keep (below_next b1 hV))
 generalize S.su ((i:Int),t)=su at *
 have hsu':¬(G:Int)<(su:Int):=by omega
 obtain ⟨SZ,hSZ⟩:∃ SZ,SZ=paS S1 ((i:Int),t) a X G:=⟨_,rfl⟩
 rw [←hSZ] at cPf ⊢
 clear hW1 c h hT hD ho hrt hX hSZ hsu
 go_enter Tryz.func18,Tryz.ntmps18
 go_upto_region 5 with (first
  | (refine wpList_store_mid rfl 77 _ _ rfl w.heap.size 0 #[.int .i64 (i:Int),.bool t] rfl rfl ?_ ?_ ?_ ?_;(with_reducible exact hth1);exact hiN;exact hoN;rw [List.toList_toArray,←HW1.out];clear HW1 hth1 hiN hoN)
  | (refine wpList_load_mid rfl 77 _ rfl w.heap.size 0 rfl [.int .i64 (i:Int),.bool t] _ k1.range Tryz.underlying77 rfl hiL ?_)
  | (go_at_call 32;refine cR.mono ?_;clear cR;rintro e w2 ⟨rfl,hb2⟩))
 have k2:=k1.still hb2
 have cS:=cSf w2 hb2
 go_upto_region 7 with (first
  | (refine wpList_load_mid rfl 77 _ rfl w.heap.size 0 rfl [.int .i64 (i:Int),.bool t] _ k2.range Tryz.underlying77 rfl hiL ?_)
  | (go_at_call 34;refine cS.mono ?_;clear cS;rintro e w3 ⟨rfl,hb3⟩))
 have k3:=k2.still hb3
 have hb23:=below_next hb2 hb3
 have cP:=cPf w3 hb23
 clear cSf cPf k1 k2
 go_wp2_with (first
  | (refine wpList_load_mid rfl 77 _ rfl w.heap.size 0 rfl [.int .i64 (i:Int),.bool t] _ k3.range Tryz.underlying77 rfl hiL ?_)
  | (go_at_call 31;refine cP.mono ?_;clear cP;rintro e w4 ⟨⟨vp,rfl⟩,h4,hb4⟩))
 go_ret
 exact ⟨rfl,h4,(But.ofB (below_next b1 hb23)).trans hb4⟩
set_option maxRecDepth 20000 in
set_option maxHeartbeats 4000000 in
theorem rUse_kept (tb sb rb kb:Nat) (S:Rs) (i:Nat) (t:Bool) (G:Nat) (w:World) (c:RfIs (pA tb 0) (i:Int) t (G:Int) 0 w) (hsu:G<S.su ((i:Int),t)) (h:RsAt w tb sb rb kb S) :
 Calls Tryz.prog 18 #[pA tb 0,.int .i64 (i:Int),.bool t,.int .i64 (G:Int)] w fun e w'=>e = .returned (.int .i64 0)∧RsAt w' tb sb rb kb { S with kp:=upQ S.kp (((i:Int),t),(G:Int)) none }∧But (fun b=>b=kb) w w':=by
 obtain ⟨b1,k1,s1,hth1⟩:=ln_new w (i:Int) t
 obtain ⟨W1,hW1⟩:∃ W,W=(w.alloc (.cells #[.int .i64 0,.bool false] 77)).setCells w.heap.size 0 [.int .i64 (i:Int),.bool t]:=⟨_,rfl⟩
 rw [←hW1] at b1 k1 s1
 have hiN:=info_lnA (i:Int) t
 have hoN:=one_ln (i:Int) t
 have hiL:=infoLn (i:Int) t
 have HW1:=Hid.mk' hW1
 have hkb:=h.mq.lt
 have cR:=c W1 b1
 have cSf:=fun V (hV:Below W1.heap.size W1 V)=>rsure_any tb sb rb kb S (i:Int) t V (h.still (below_next b1 hV))
 replace h:=h.still b1
 obtain ⟨su,hSu⟩:∃ su,su=S.su ((i:Int),t):=⟨_,rfl⟩
 rw [←hSu] at cSf hsu
 have hsu':(G:Int)<(su:Int):=by omega
 clear hW1 c hSu hsu
 go_enter Tryz.func18,Tryz.ntmps18
 go_upto_region 5 with (first
  | (refine wpList_store_mid rfl 77 _ _ rfl w.heap.size 0 #[.int .i64 (i:Int),.bool t] rfl rfl ?_ ?_ ?_ ?_;(with_reducible exact hth1);exact hiN;exact hoN;rw [List.toList_toArray,←HW1.out];clear HW1 hth1 hiN hoN)
  | (refine wpList_load_mid rfl 77 _ rfl w.heap.size 0 rfl [.int .i64 (i:Int),.bool t] _ k1.range Tryz.underlying77 rfl hiL ?_)
  | (go_at_call 32;refine cR.mono ?_;clear cR;rintro e w2 ⟨rfl,hb2⟩))
 have k2:=k1.still hb2
 have cS:=cSf w2 hb2
 replace h:=h.still hb2
 replace b1:=below_next b1 hb2
 go_upto_region 6 with (first
  | (refine wpList_load_mid rfl 77 _ rfl w.heap.size 0 rfl [.int .i64 (i:Int),.bool t] _ k2.range Tryz.underlying77 rfl hiL ?_)
  | (go_at_call 34;refine cS.mono ?_;clear cS;rintro e w3 ⟨rfl,hb3⟩))
 replace k2:=k2.still hb3
 replace h:=h.still hb3
 replace b1:=below_next b1 hb3
 clear cSf k1 hb2 hb3
 have hdr:Below w3.heap.size w3 w3.drew:=(Below.refl _ _).drew
 replace k2:=k2.still hdr
 replace h:=h.still hdr
 replace b1:=below_next b1 hdr
 clear hdr
 refine wp_region_noPanic ?_
 refine wp_region_held_drew (S:=fun u=>u.cell? ⟨tb,3,none⟩=some (.map (some kb))∧RW u w.heap.size 0 [.int .i64 (i:Int),.bool t]) (by kernel_rfl) ⟨h.c3,k2⟩ (fun hS => ?_)
 generalize w3.drew=V6 at *
 refine tg 0 hS ?_
 (try simp only [pS])
 refine tg 1 hS ?_
 (try simp only [pS])
 refine tg 2 hS ?_
 (try simp only [pS])
 refine tc 3 hS (fun u hu=>hu.1) ?_
 (try simp only [pS])
 refine tR 4 hS (fun u hu=>hu.2.range) 77 Tryz.underlying77 (infoLn (i:Int) t) ?_
 (try simp only [pS])
 refine tg 5 hS ?_
 (try simp only [pS])
 refine tg 6 hS (v:=msV (((i:Int),t),(G:Int))) (hy:=by intro u hu;exact (show (execOp _ _).run Tryz.prog u=_ from by kernel_rfl)) ?_
 (try simp only [pS])
 obtain ⟨U7,hdel,hr7,hb7,hs7⟩:=h.del_ky (((i:Int),t),(G:Int)) 0
 have k7:=k2.but7 hb7 (by omega)
 refine wpAnyH_ready (rs:=[7]) (by kernel_rfl) (by simp) ?_
 refine zRun 7 (w':=U7) (hrun:=ex_del7 #[49,82] (.tmp 29) (.tmp 32) rfl rfl rfl hdel) ⟨hr7.c3,k7⟩ ?_ AllReadyH.nil
 refine wpAnyH_done (by kernel_rfl) ?_ _
 refine NoPanic.normal ?_
 simp only [putN]
 clear hdel hS
 go_wp2
 go_ret
 exact ⟨rfl,hr7,(But.ofB b1).trans hb7⟩
set_option maxRecDepth 100000 in
set_option maxHeartbeats 4000000 in
theorem rNext_ok (tb sb rb kb:Nat) (S:Rs) (i:Nat) (t:Bool) (hi:i<S.n) (G:Nat) (hsu:S.su ((i:Int),t)=G) (hG:G<4294967295) (A B:Nat→Nat) (hK:KyIs S i t G A B) (S1:Rs) (ho:OnOk S i S1) (X:Nat→Nat) (hX:∀ j,X j<256) (hrt:S1.rt ((i:Int),t)=some (G,X)) (w:World) (h:RsAt w tb sb rb kb S) (hT:TabAt w) (hD:DbT w) :
 Calls Tryz.prog 14 #[pA tb 0,.int .i64 (i:Int),.bool t] w fun e w'=>∃ q,e = .returned (.tuple #[.int .i64 (G:Int),.slice (some ⟨q,0,none⟩) 16 16,.slice (some ⟨q,16,none⟩) 12 12,.int .i64 0])∧w.heap.size≤q∧RW w' q 0 (kyL A B)∧RsAt w' tb sb rb kb (paS S1 ((i:Int),t) G X G)∧But (fun b=>b=sb∨b=rb∨b=kb) w w':=by
 have hlt:sb<w.heap.size∧rb<w.heap.size∧kb<w.heap.size:=⟨h.ms.lt,h.mr.lt,h.mq.lt⟩
 have c1:=rSure_any tb sb rb kb S (i:Int) t ⟨by omega,by omega⟩ w h
 rw [hsu] at c1
 obtain ⟨z,hz⟩:∃ z:Int,z=(G:Int):=⟨_,rfl⟩
 have hsu':z<4294967295:=by omega
 have cKf:=fun V (hV:Below w.heap.size w V)=>hK tb sb rb kb V (h.still hV) (hT.still hV) (hD.keep hV)
 have cPf:=fun V (hV:Below w.heap.size w V)=>rpass_any tb sb rb kb S i t S1 ho G X hX hrt G (Nat.le_refl _) (by omega) V (h.still hV) (hT.still hV) (hD.keep hV)
 obtain ⟨SZ,hSZ⟩:∃ SZ,SZ=paS S1 ((i:Int),t) G X G:=⟨_,rfl⟩
 rw [←hSZ] at cPf ⊢
 simp only [←hz] at c1 cKf cPf ⊢
 clear h hT hD ho hK hrt hX hSZ hsu hi hz
 go_enter Tryz.func14,Tryz.ntmps14
 go_upto_region 6 with (go_at_call 16;refine c1.mono ?_;clear c1;rintro e w1 ⟨rfl,hb1⟩)
 obtain ⟨b1,k1,s1,hth1⟩:=ln_new w1 (i:Int) t
 obtain ⟨W1,hW1⟩:∃ W,W=(w1.alloc (.cells #[.int .i64 0,.bool false] 77)).setCells w1.heap.size 0 [.int .i64 (i:Int),.bool t]:=⟨_,rfl⟩
 rw [←hW1] at b1 k1 s1
 have hiN:=info_lnA (i:Int) t
 have hoN:=one_ln (i:Int) t
 have hiL:=infoLn (i:Int) t
 have HW1:=Hid.mk' hW1
 have cK:=cKf W1 (below_next hb1 b1)
 replace b1:=below_next hb1 b1
 clear hW1 hb1 cKf
 have hiA:=infoKyA A B
 have hoA:=oneKy A B
 obtain ⟨KK,hKK⟩:∃ KK,KK=kyL A B:=⟨_,rfl⟩
 unfold kyV at cK
 rw [←hKK] at cK hiA hoA
 have HKa:Hid (KK.toArray.size=28):=Hid.mk' (by rw [hKK];exact ky_size _ _)
 have HKK:=Hid.mk' hKK
 clear hKK
 go_upto_region 8 with (first
  | (refine wpList_store_mid rfl 77 _ _ rfl w1.heap.size 0 #[.int .i64 (i:Int),.bool t] rfl rfl ?_ ?_ ?_ ?_;(with_reducible exact hth1);exact hiN;exact hoN;rw [List.toList_toArray,←HW1.out];clear HW1 hth1 hiN hoN)
  | (refine wpList_load_mid rfl 77 _ rfl w1.heap.size 0 rfl [.int .i64 (i:Int),.bool t] _ k1.range Tryz.underlying77 rfl hiL ?_)
  | (go_at_call 30;refine cK.mono ?_;clear cK;rintro e w3 ⟨rfl,hb3⟩;have kz3:=ky_zero w3;(have hth3:(w3.alloc (.cells #[.int .u8 0,.int .u8 0,.int .u8 0,.int .u8 0,.int .u8 0,.int .u8 0,.int .u8 0,.int .u8 0,.int .u8 0,.int .u8 0,.int .u8 0,.int .u8 0,.int .u8 0,.int .u8 0,.int .u8 0,.int .u8 0,.int .u8 0,.int .u8 0,.int .u8 0,.int .u8 0,.int .u8 0,.int .u8 0,.int .u8 0,.int .u8 0,.int .u8 0,.int .u8 0,.int .u8 0,.int .u8 0] 86)).there w3.heap.size 0 KK.toArray.size:=(by have h:=kz3.there;rw [kyL_len] at h;rw [HKa.out];exact h)))
  | (refine wpList_store_mid rfl 86 _ _ rfl w3.heap.size 0 KK.toArray rfl rfl ?_ ?_ ?_ ?_;(with_reducible exact hth3);exact hiA;exact hoA;rw [List.toList_toArray]))
 have rz:=kz3.stored KK (by rw [HKK.out,kyL_len,kyL_len])
 have bz:=below_setCells (B:=w3.heap.size) (b:=w3.heap.size) (Nat.le_refl _) KK 0 _ ((Below.refl _ _).alloc (Nat.le_refl _) (.cells #[.int .u8 0,.int .u8 0,.int .u8 0,.int .u8 0,.int .u8 0,.int .u8 0,.int .u8 0,.int .u8 0,.int .u8 0,.int .u8 0,.int .u8 0,.int .u8 0,.int .u8 0,.int .u8 0,.int .u8 0,.int .u8 0,.int .u8 0,.int .u8 0,.int .u8 0,.int .u8 0,.int .u8 0,.int .u8 0,.int .u8 0,.int .u8 0,.int .u8 0,.int .u8 0,.int .u8 0,.int .u8 0] 86))
 generalize (w3.alloc (.cells #[.int .u8 0,.int .u8 0,.int .u8 0,.int .u8 0,.int .u8 0,.int .u8 0,.int .u8 0,.int .u8 0,.int .u8 0,.int .u8 0,.int .u8 0,.int .u8 0,.int .u8 0,.int .u8 0,.int .u8 0,.int .u8 0,.int .u8 0,.int .u8 0,.int .u8 0,.int .u8 0,.int .u8 0,.int .u8 0,.int .u8 0,.int .u8 0,.int .u8 0,.int .u8 0,.int .u8 0,.int .u8 0] 86)).setCells w3.heap.size 0 KK=W4 at *
 have hq:w.heap.size≤w3.heap.size:=(below_next b1 hb3).size
 have k4:=(k1.still hb3).still bz
 have cP:=cPf W4 (below_next (below_next b1 hb3) bz)
 have bw4:=below_next (below_next b1 hb3) bz
 clear cPf kz3 hth3 bz hb3 b1
 simp only [putN]
 go_upto_region 9 with (first
  | (refine wpList_load_mid rfl 77 _ rfl w1.heap.size 0 rfl [.int .i64 (i:Int),.bool t] _ k4.range Tryz.underlying77 rfl hiL ?_)
  | (go_at_call 31;refine cP.mono ?_;clear cP;rintro e w5 ⟨⟨vp,rfl⟩,h5,hb5⟩))
 replace rz:=rz.but7 hb5 (by omega)
 have bt5:=(But.ofB bw4).trans hb5
 clear hb5 k4
 have hdr:Below w5.heap.size w5 w5.drew:=(Below.refl _ _).drew
 replace rz:=rz.still hdr
 replace h5:=h5.still hdr
 replace bt5:=bt5.trans (But.ofB hdr)
 clear hdr
 refine wp_region_noPanic ?_
 refine wp_region_held_drew (S:=fun u=>Below w5.drew.heap.size w5.drew u) (by kernel_rfl) (Below.refl _ _) (fun hS => ?_)
 generalize w5.drew=V at *
 refine tg 0 hS ?_
 (try simp only [pS])
 refine tg 1 hS (v:=pA w3.heap.size 0) ?_
 (try simp only [pS])
 refine tg 2 hS (v := .slice (some ⟨w3.heap.size,0,none⟩) 16 16) (hy:=by intro u hu;exact (show (execOp _ _).run Tryz.prog u=_ from by kernel_rfl)) ?_
 (try simp only [pS])
 refine tg 3 hS (v:=pA w3.heap.size 16) ?_
 (try simp only [pS])
 refine tg 4 hS (v := .slice (some ⟨w3.heap.size,16,none⟩) 12 12) (hy:=by intro u hu;exact (show (execOp _ _).run Tryz.prog u=_ from by kernel_rfl)) ?_
 (try simp only [pS])
 refine tg 5 hS ?_
 (try simp only [pS])
 refine tg 6 hS ?_
 (try simp only [pS])
 refine tg 7 hS ?_
 (try simp only [pS])
 refine tg 8 hS ?_
 (try simp only [pS])
 refine wpAnyH_done (by kernel_rfl) ?_ _
 refine NoPanic.normal ?_
 go_wp2
 rw [HKK.out] at rz
 exact bodyPost_ret (results_tmp4 rfl _ _ _) rfl ⟨w3.heap.size,rfl,hq,rz,h5,bt5⟩
end Go.Proofs.YtbbikhlbkpjpjaaGreatDoor
namespace Go.Proofs.YtbbikhlbkpjpjaaGreatDoor
open Go.RowKit Go.Shelf
theorem ex_ins7 {P:Program} {a:Act} {oi:Oper} {w w':World} {u v r:Value} (t:TypeId) (m k x:Operand) (ho:oi.op = .insert t m k x) (hm:a.eval m=u) (hk:a.eval k=v) (hx:a.eval x=r) (hrun:(Instr.mapUpdate t u v r).run P w = .ok () w'):(execOp a.eval oi).run P w = .ok .skip w':=by
 unfold execOp
 simp [ho,hm,hk,hx,hrun]
theorem wpList_skip7 {P:Program} {w w':World} {ops:Array Oper} {rest:List Oper} {o:Oper} {a:Act} {Q:Exit→Act→World→Prop} (hgd:o.guard=none) (hrun:(execOp a.eval o).run P w = .ok .skip w') (h:wpList P ops Q rest (a.put o.dst undef) w'):wpList P ops Q (o :: rest) a w :=
 wpList_step fun K hK=>by
  simp only [Region.wanted,hgd,if_true]
  unfold Oper.wp
  rw [hrun]
  exact hK _ _ h
def rs0 (n:Nat) (R:Nat→Nat):Rs:=⟨n,upS (fun _=>none) ((n:Int) - 1) (some R),fun _=>none,fun _=>none⟩
set_option maxRecDepth 20000 in
set_option maxHeartbeats 4000000 in
theorem rNew_ok (g o c:Nat) (R:Nat→Nat) (n:Nat) (hn:mayB (n:Int)=true) (w:World) (hg:g<w.heap.size) (hs:w.rangeAt g o (ints .u8 32 R)) :
 Calls Tryz.prog 7 #[.slice (some ⟨g,o,none⟩) 32 c,.int .i64 (n:Int)] w fun e w'=>e = .returned (.tuple #[pA (w.heap.size+3) 0,.int .i64 0])∧RsAt w' (w.heap.size+3) w.heap.size (w.heap.size+1) (w.heap.size+2) (rs0 n R)∧w'.heap.size=w.heap.size+4∧Below w.heap.size w w':=by
 have hn0:(0:Int)≤(n:Int) - 1:=by rcases mayB_cases hn with h | h | h | h | h | h | h <;> omega
 have cR:=iRoot_any (n:Int) w
 rw [if_pos hn] at cR
 obtain ⟨z,hz⟩:∃ z:Int,z=(n:Int) - 1:=⟨_,rfl⟩
 rw [←hz] at cR hn0
 have b1:Below w.heap.size w (w.alloc (.map #[] 0)):=(Below.refl _ _).alloc (Nat.le_refl _) _
 have m1:=mp_empty w
 obtain ⟨W1,hW1⟩:∃ W,W=w.alloc (.map #[] 0):=⟨_,rfl⟩
 have s1:W1.heap.size=w.heap.size+1:=by rw [hW1];simp
 rw [←hW1] at b1 m1
 have hs1:=range_keep hs hg b1
 obtain ⟨W2,hput,m2,hb2,s2⟩:=mp_put m1 und_sd und_i7 z (sdV R)
 have b2:=b1.trans (hb2.below b1.size (fun k e=>by omega))
 rw [s1] at s2
 obtain ⟨W3,hW3⟩:∃ W,W=W2.alloc (.map #[] 0):=⟨_,rfl⟩
 have b3:Below W2.heap.size W2 W3:=by rw [hW3];exact (Below.refl _ _).alloc (Nat.le_refl _) _
 have s3:W3.heap.size=w.heap.size+2:=by rw [hW3];simp;omega
 have mr:MkAt lnV W3 (w.heap.size+1) (fun _=>none):=by
  have h:=mk_empty (kv:=lnV) W2
  rw [s2] at h
  rw [hW3];exact h
 obtain ⟨W4,hW4⟩:∃ W,W=W3.alloc (.map #[] 0):=⟨_,rfl⟩
 have b4:Below W3.heap.size W3 W4:=by rw [hW4];exact (Below.refl _ _).alloc (Nat.le_refl _) _
 have s4:W4.heap.size=w.heap.size+3:=by rw [hW4];simp;omega
 have mq:MkAt msV W4 (w.heap.size+2) (fun _=>none):=by
  have h:=mk_empty (kv:=msV) W3
  rw [s3] at h
  rw [hW4];exact h
 obtain ⟨W5,hW5⟩:∃ W,W=W4.alloc (.cells #[.int .i64 (n:Int),.map (some w.heap.size),.map (some (w.heap.size+1)),.map (some (w.heap.size+2))] 51):=⟨_,rfl⟩
 have b5:Below W4.heap.size W4 W5:=by rw [hW5];exact (Below.refl _ _).alloc (Nat.le_refl _) _
 have s5:W5.heap.size=w.heap.size+4:=by rw [hW5];simp;omega
 have kR:RW W5 (w.heap.size+3) 0 [.int .i64 (n:Int),.map (some w.heap.size),.map (some (w.heap.size+1)),.map (some (w.heap.size+2))]:=by
  have h:=RW.fresh W4 [.int .i64 (n:Int),.map (some w.heap.size),.map (some (w.heap.size+1)),.map (some (w.heap.size+2))] 51
  rw [s4] at h
  rw [hW5];exact h
 have hfin:RsAt W5 (w.heap.size+3) w.heap.size (w.heap.size+1) (w.heap.size+2) (rs0 n R)∧W5.heap.size=w.heap.size+4∧Below w.heap.size w W5:=by
  refine ⟨⟨kR.range 0 _ rfl,kR.range 1 _ rfl,kR.range 2 _ rfl,kR.range 3 _ rfl,?_,?_,?_,⟨by omega,by omega,by omega⟩⟩,s5,below_next (below_next (below_next b2 b3) b4) b5⟩
  · refine MpAt.congr (((m2.below b3 (by omega)).below b4 (by omega)).below b5 (by omega)) (fun x => ?_)
    unfold rs0 upS upm
    dsimp only
    rw [hz]
    by_cases e:x=(n:Int) - 1
    · rw [if_pos e,if_pos e];rfl
    · rw [if_neg e,if_neg e];rfl
  · exact MkAt.congr ((mr.below b4 (by omega)).below b5 (by omega)) (fun x=>rfl)
  · exact MkAt.congr (mq.below b5 (by omega)) (fun x=>rfl)
 have hiX:=infoSd R
 have HW1:=Hid.mk' hW1
 have HW3:=Hid.mk' hW3
 have HW4:=Hid.mk' hW4
 have HW5:=Hid.mk' hW5
 have HF:=Hid.mk' hfin
 unfold sdV at hput
 clear hW1 hW3 hW4 hW5 hfin m1 m2 hb2 b1 b2 b3 b4 b5 mr mq kR hs hz hn
 have hmm:=@run_makeMap Tryz.prog
 go_enter Tryz.func7,Tryz.ntmps7
 go_wp2_with (first
  | (go_at_call 20;refine cR.mono ?_;clear cR;rintro e w1 ⟨rfl,rfl⟩)
  | rw [arr_at]
  | (rw [←HW1.out];clear HW1)
  | (refine wpList_load_mid rfl 60 _ rfl g o rfl (ints .u8 32 R) _ hs1 Tryz.underlying60 rfl hiX ?_;clear hs1)
  | (refine wpList_skip7 rfl (ex_ins7 47 (.tmp 17) (.tmp 18) (.tmp 21) rfl rfl rfl rfl hput) ?_;clear hput)
  | (rw [←HW3.out];clear HW3)
  | (rw [←HW4.out];clear HW4)
  | (rw [←HW5.out];clear HW5))
 go_ret2
 exact ⟨rfl,HF.out⟩
def kpL (f:Ms→Option ((Nat→Nat) × (Nat→Nat))) (l:Ln) (o:Int):Nat→List Int
 | 0=>[]
 | m+1=>kpL f l o m ++ (if (f (l,o+(m:Int))).isSome=true then [o+(m:Int)] else [])
theorem kpL_len (f:Ms→Option ((Nat→Nat) × (Nat→Nat))) (l:Ln) (o:Int):∀ m,(kpL f l o m).length≤m
 | 0=>Nat.le_refl _
 | m+1=>by
  have h:=kpL_len f l o m
  unfold kpL
  rw [List.length_append]
  split
  · simp;omega
  · simp;omega
set_option maxRecDepth 20000 in
set_option maxHeartbeats 4000000 in
theorem rKept_any (tb sb rb kb:Nat) (S:Rs) (i:Int) (t:Bool) (hi:0≤i∧i<(S.n:Int)) (hsu:S.su (i,t)≤4294967296) (w:World) (h:RsAt w tb sb rb kb S):Calls Tryz.prog 17 #[pA tb 0,.int .i64 i,.bool t] w fun e w'=>∃ v,e = .returned v∧ZIn w' v (kpL S.kp (i,t) ((S.su (i,t):Int) - 32) 32)∧Below w.heap.size w w':=by
 have c1:=rhas_any tb S.n i (by omega) w h.c0
 have e:(decide (0≤i) && decide (i<(S.n:Int)))=true:=by simp;omega
 rw [e] at c1
 obtain ⟨b1,k1,s1,hth1⟩:=ln_new w i t
 obtain ⟨W1,hW1⟩:∃ W,W=(w.alloc (.cells #[.int .i64 0,.bool false] 77)).setCells w.heap.size 0 [.int .i64 i,.bool t]:=⟨_,rfl⟩
 rw [←hW1] at b1 k1 s1
 have hiN:=info_lnA i t
 have hoN:=one_ln i t
 have hiL:=infoLn i t
 have h1:=h.still b1
 have c2:=rsure_any tb sb rb kb S i t W1 h1
 obtain ⟨su,hsu'⟩:∃ su:Int,su=(S.su (i,t):Int):=⟨_,rfl⟩
 rw [←hsu'] at c2 ⊢
 have hs2:0≤su∧su≤4294967296:=by omega
 have ew:IntKind.i64.wrap (su - 32)=su - 32:=by simp only [IntKind.wrap_i64];omega
 have HW1:=Hid.mk' hW1
 clear hW1 e hi hsu hsu' h
 go_enter Tryz.func17,Tryz.ntmps17
 go_wp2_with (first
  | (go_at_call 33;refine c1.mono ?_;clear c1;rintro e w1 ⟨rfl,hw1⟩;obtain rfl:=hw1.symm)
  | (refine wpList_store_mid rfl 77 _ _ rfl w.heap.size 0 #[.int .i64 i,.bool t] rfl rfl ?_ ?_ ?_ ?_;(with_reducible exact hth1);exact hiN;exact hoN;rw [List.toList_toArray,←HW1.out];clear HW1 hth1 hiN hoN)
  | (refine wpList_load_mid rfl 77 _ rfl w.heap.size 0 rfl [.int .i64 i,.bool t] _ k1.range Tryz.underlying77 rfl hiL ?_)
  | (go_at_call 34;refine c2.mono ?_;clear c2;rintro e w2 ⟨rfl,hb2⟩))
 have k2:=k1.still hb2
 have h2:=h1.still hb2
 have b2:=below_next b1 hb2
 clear k1 h1 b1 hb2 s1 ew
 go_loopw [9,10] (fun v x wr=>∃ (m:Nat) (y:Int),m≤32∧x = .int .i64 y∧y=su - 32+(m:Int)∧OwnZ w2.heap.size wr v (kpL S.kp (i,t) (su - 32) m)∧Below w2.heap.size w2 wr) (fun _ x _=>(su - intOf x).toNat)
 case atStart=>exact ⟨0,_,by decide,rfl,by omega,OwnZ.nil _ _,Below.refl _ _⟩
 case round =>
  obtain ⟨m,y,hm,rfl,hy,hO,hb⟩:=hrel
  have ew2:IntKind.i64.wrap (y+1)=y+1:=by simp only [IntKind.wrap_i64];omega
  have Hy:=Hid.mk' hy
  have hlen:=kpL_len S.kp (i,t) (su - 32) m
  clear hy
  by_cases hl:y<su
  · have k3:=k2.still hb
    have c3:=rkeeps_any tb sb rb kb S i t y wr (h2.still hb)
    have eN:kpL S.kp (i,t) (su - 32) (m+1)=kpL S.kp (i,t) (su - 32) m ++ (if (S.kp ((i,t),y)).isSome=true then [y] else []):=by rw [Hy.out];rfl
    generalize kpL S.kp (i,t) (su - 32) m=L at *
    have HN:=Hid.mk' eN
    clear eN
    cases hk:(S.kp ((i,t),y)).isSome with
    | true =>
     rw [hk] at c3
     have Hk:=Hid.mk' hk
     clear hk
     go_wp2_with (first
      | (refine wpList_load_mid rfl 77 _ rfl w.heap.size 0 rfl [.int .i64 i,.bool t] _ k3.range Tryz.underlying77 rfl hiL ?_)
      | (go_at_call 35;refine c3.mono ?_;clear c3;rintro e w4 ⟨rfl,hb4⟩;replace hO:=hO.below hb4)
      | (refine wpList_append_z rfl (.tmp 32) (.tmp 34) rfl w2.heap.size _ L y rfl hO rfl (by omega) (below_next hb hb4).size ?_;rintro v5 w5 hO5 hb5))
     go_roundw
     case rel =>
      have e:=HN.out
      rw [if_pos Hk.out] at e
      exact ⟨m+1,_,by have:=Hy.out;omega,rfl,by have:=Hy.out;omega,by rw [e];exact hO5,(below_next hb hb4).trans hb5⟩
     case measure=>simp [intOf];omega
    | false =>
     rw [hk] at c3
     have Hk:=Hid.mk' hk
     clear hk
     go_wp2_with (first
      | (refine wpList_load_mid rfl 77 _ rfl w.heap.size 0 rfl [.int .i64 i,.bool t] _ k3.range Tryz.underlying77 rfl hiL ?_)
      | (go_at_call 35;refine c3.mono ?_;clear c3;rintro e w4 ⟨rfl,hb4⟩;replace hO:=hO.below hb4))
     go_roundw
     case rel =>
      have e:=HN.out
      rw [if_neg (by rw [Hk.out];exact Bool.false_ne_true),List.append_nil] at e
      exact ⟨m+1,_,by have:=Hy.out;omega,rfl,by have:=Hy.out;omega,by rw [e];exact hO,below_next hb hb4⟩
     case measure=>simp [intOf];omega
  · go_wp2
    go_ret
    have em:m=32:=by have:=Hy.out;omega
    subst em
    exact ⟨_,rfl,hO.zin,below_next b2 hb⟩
end Go.Proofs.YtbbikhlbkpjpjaaGreatDoor
