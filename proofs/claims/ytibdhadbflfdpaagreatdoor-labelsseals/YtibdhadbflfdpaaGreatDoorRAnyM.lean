/- What the proof stands on: RAny, RLMul, RLShare. -/
import Derived.Test.YtibdhadbflfdpaaGreatDoorLProdM
import Derived.Test.YtibdhadbflfdpaaGreatDoorRStep
namespace Go.Proofs.YtibdhadbflfdpaaGreatDoor
open Go.RowKit
structure R4 where
 xl:Nat→Int
 zl:Nat→Int
 xh:Nat→Int
 zh:Nat→Int
structure R4.Rep (r:R4) (s:L4):Prop where
 xl:Go.Proofs.YtibdhadbflfdpaaGreatDoor.Rep r.xl s.xl
 zl:Go.Proofs.YtibdhadbflfdpaaGreatDoor.Rep r.zl s.zl
 xh:Go.Proofs.YtibdhadbflfdpaaGreatDoor.Rep r.xh s.xh
 zh:Go.Proofs.YtibdhadbflfdpaaGreatDoor.Rep r.zh s.zh
def R4.flip (r:R4):R4:=⟨r.xh,r.zh,r.xl,r.zl⟩
theorem R4.Rep.flip {r:R4} {s:L4} (h:r.Rep s):r.flip.Rep s.flip:=⟨h.xh,h.zh,h.xl,h.zl⟩
def kL:Nat→Int:=carryL (smL 121665)
theorem rep_k:Rep kL 121665:=rep_int 121665 (by decide) (by decide) 121665 (by decide)
def aaL (r:R4):Nat→Int:=timesL (plusL r.xl r.zl) (plusL r.xl r.zl)
def bbL (r:R4):Nat→Int:=timesL (minusL r.xl r.zl) (minusL r.xl r.zl)
def eeL (r:R4):Nat→Int:=minusL (aaL r) (bbL r)
def daL (r:R4):Nat→Int:=timesL (minusL r.xh r.zh) (plusL r.xl r.zl)
def cbL (r:R4):Nat→Int:=timesL (plusL r.xh r.zh) (minusL r.xl r.zl)
def stepR (X1:Nat→Int) (r:R4):R4 :=
 ⟨timesL (aaL r) (bbL r),timesL (eeL r) (plusL (aaL r) (timesL kL (eeL r))),
  timesL (plusL (daL r) (cbL r)) (plusL (daL r) (cbL r)),timesL X1 (timesL (minusL (daL r) (cbL r)) (minusL (daL r) (cbL r)))⟩
theorem aaL_rep {r:R4} {s:L4} (h:r.Rep s):Rep (aaL r) (fmul (fadd s.xl s.zl) (fadd s.xl s.zl)):=rw_times (rep_plus h.xl h.zl) (rep_plus h.xl h.zl)
theorem bbL_rep {r:R4} {s:L4} (h:r.Rep s) (ok:s.Ok):Rep (bbL r) (fmul (fsub s.xl s.zl) (fsub s.xl s.zl)):=rw_times (rep_minus h.xl h.zl ok.zl) (rep_minus h.xl h.zl ok.zl)
theorem eeL_rep {r:R4} {s:L4} (h:r.Rep s) (ok:s.Ok):Rw (eeL r) (ee s):=rep_minus (aaL_rep h) (bbL_rep h ok) (fmul_lt _ _)
theorem daL_rep {r:R4} {s:L4} (h:r.Rep s) (ok:s.Ok):Rep (daL r) (fmul (fsub s.xh s.zh) (fadd s.xl s.zl)):=rw_times (rep_minus h.xh h.zh ok.zh) (rep_plus h.xl h.zl)
theorem cbL_rep {r:R4} {s:L4} (h:r.Rep s) (ok:s.Ok):Rep (cbL r) (fmul (fadd s.xh s.zh) (fsub s.xl s.zl)):=rw_times (rep_plus h.xh h.zh) (rep_minus h.xl h.zl ok.zl)
theorem keL_rep {r:R4} {s:L4} (h:r.Rep s) (ok:s.Ok):Rep (timesL kL (eeL r)) (fmul 121665 (ee s)):=rw_times rep_k.wide (eeL_rep h ok)
theorem sL_rep {r:R4} {s:L4} (h:r.Rep s) (ok:s.Ok):Rw (plusL (daL r) (cbL r)) (fadd (fmul (fsub s.xh s.zh) (fadd s.xl s.zl)) (fmul (fadd s.xh s.zh) (fsub s.xl s.zl))):=rep_plus (daL_rep h ok) (cbL_rep h ok)
theorem dL_rep {r:R4} {s:L4} (h:r.Rep s) (ok:s.Ok):Rw (minusL (daL r) (cbL r)) (fsub (fmul (fsub s.xh s.zh) (fadd s.xl s.zl)) (fmul (fadd s.xh s.zh) (fsub s.xl s.zl))):=rep_minus (daL_rep h ok) (cbL_rep h ok) (fmul_lt _ _)
theorem stepR_rep {X1:Nat→Int} {u:Nat} {r:R4} {s:L4} (hX:Rep X1 u) (h:r.Rep s) (ok:s.Ok):(stepR X1 r).Rep (stepL u s) :=
 ⟨rw_times (aaL_rep h).wide (bbL_rep h ok).wide,rw_times (eeL_rep h ok) (rep_plus (aaL_rep h) (keL_rep h ok)),rw_times (sL_rep h ok) (sL_rep h ok),rw_times hX.wide (rw_times (dL_rep h ok) (dL_rep h ok)).wide⟩
theorem Rep.far {L:Nat→Int} {x:Nat} (h:Rep L x):∀ j,j<16→-1073741824≤L j∧L j≤1073741824:=fun j hj=>by have:=h.bd j hj;omega
theorem rstep_any (X1:Nat→Int) (u:Nat) (r:R4) (s:L4) (hX:Rep X1 u) (h:r.Rep s) (ok:s.Ok) (w:World) :
 Calls Tryz.prog 135 #[rV X1,pV r.xl r.zl,pV r.xh r.zh] w fun e w'=>e = .returned (.tuple #[pV (stepR X1 r).xl (stepR X1 r).zl,pV (stepR X1 r).xh (stepR X1 r).zh])∧Below w.heap.size w w' :=
 rstep_raw X1 r.xl r.zl r.xh r.zh (plusL r.xl r.zl) (minusL r.xl r.zl) (aaL r) (bbL r) (eeL r) (minusL r.xh r.zh) (daL r) (plusL r.xh r.zh) (cbL r) (plusL (daL r) (cbL r)) (minusL (daL r) (cbL r)) _ kL (timesL kL (eeL r)) (plusL (aaL r) (timesL kL (eeL r))) _ _ (timesL (minusL (daL r) (cbL r)) (minusL (daL r) (cbL r))) _
  (fun W=>rplus_any _ _ h.xl.far h.zl.far W) (fun W=>rminus_any _ _ h.xl.far h.zl.far W)
  (fun W=>rtimes_any _ _ (rep_plus h.xl h.zl).bd (rep_plus h.xl h.zl).bd W) (fun W=>rtimes_any _ _ (rep_minus h.xl h.zl ok.zl).bd (rep_minus h.xl h.zl ok.zl).bd W)
  (fun W=>rminus_any _ _ (aaL_rep h).far (bbL_rep h ok).far W)
  (fun W=>rminus_any _ _ h.xh.far h.zh.far W) (fun W=>rtimes_any _ _ (rep_minus h.xh h.zh ok.zh).bd (rep_plus h.xl h.zl).bd W)
  (fun W=>rplus_any _ _ h.xh.far h.zh.far W) (fun W=>rtimes_any _ _ (rep_plus h.xh h.zh).bd (rep_minus h.xl h.zl ok.zl).bd W)
  (fun W=>rplus_any _ _ (daL_rep h ok).far (cbL_rep h ok).far W) (fun W=>rminus_any _ _ (daL_rep h ok).far (cbL_rep h ok).far W)
  (fun W=>rtimes_any _ _ (aaL_rep h).bd (bbL_rep h ok).bd W) (fun W=>rsmall_any 121665 (by decide) (by decide) W)
  (fun W=>rtimes_any _ _ rep_k.bd (eeL_rep h ok).bd W) (fun W=>rplus_any _ _ (aaL_rep h).far (keL_rep h ok).far W)
  (fun W=>rtimes_any _ _ (eeL_rep h ok).bd (rep_plus (aaL_rep h) (keL_rep h ok)).bd W)
  (fun W=>rtimes_any _ _ (sL_rep h ok).bd (sL_rep h ok).bd W) (fun W=>rtimes_any _ _ (dL_rep h ok).bd (dL_rep h ok).bd W)
  (fun W=>rtimes_any _ _ hX.bd (rw_times (dL_rep h ok) (dL_rep h ok)).bd W) w
def climbR (X1:Nat→Int) (ks:Nat→Nat):Nat→R4
 | 0=>⟨carryL (smL 1),carryL (smL 0),X1,carryL (smL 1)⟩
 | j+1=>if bitN ks (254 - j) then (stepR X1 (climbR X1 ks j).flip).flip else stepR X1 (climbR X1 ks j)
theorem rep_1:Rep (carryL (smL 1)) 1:=rep_int 1 (by decide) (by decide) 1 (by decide)
theorem rep_0:Rep (carryL (smL 0)) 0:=rep_int 0 (by decide) (by decide) 0 (by decide)
theorem climbR_rep {X1:Nat→Int} {u:Nat} (hu:u<pF) (hX:Rep X1 u) (ks:Nat→Nat):∀ j,(climbR X1 ks j).Rep (climbL u ks j)
 | 0=>⟨rep_1,rep_0,hX,rep_1⟩
 | j+1=>by
  have ih:=climbR_rep hu hX ks j
  have ok:=climbL_ok u hu ks j
  unfold climbR climbL rungL
  cases bitN ks (254 - j)
  · exact stepR_rep hX ih ok
  · exact (stepR_rep hX ih.flip ⟨ok.xh,ok.zh,ok.xl,ok.zl⟩).flip
end Go.Proofs.YtibdhadbflfdpaaGreatDoor
namespace Go.Proofs.YtibdhadbflfdpaaGreatDoor
open Go.RowKit
theorem rl_build_to {P:Program} {ops:Array Oper} {rest:List Oper} {o:Oper} {a:Act} {w:World} {Q:Exit→Act→World→Prop} (hg:o.guard=none) (t:TypeId) (parts:Array (Nat × Operand)) (ho:o.op = .build t parts) (cells:Array Value)
 (hf:P.built t (parts.map fun (i,x)=>(i,a.eval x)).toList=some cells) (h:wpList P ops Q rest (a.put o.dst (.agg cells)) w):wpList P ops Q (o :: rest) a w :=
 wpList_build hg t parts ho (by rw [hf];rfl) (by rw [hf];exact h)
theorem rl_build2 {P:Program} {ops:Array Oper} {rest:List Oper} {o:Oper} {a:Act} {w:World} {Q:Exit→Act→World→Prop} (hg:o.guard=none) (t:TypeId) (i j:Nat) (x y:Operand) (ho:o.op = .build t #[(i,x),(j,y)]) (u v:Value) (hx:a.eval x=u) (hy:a.eval y=v) (cells:Array Value)
 (hf:P.built t [(i,u),(j,v)]=some cells) (h:wpList P ops Q rest (a.put o.dst (.agg cells)) w):wpList P ops Q (o :: rest) a w :=
 rl_build_to hg t _ ho cells (by simp only [List.map_toArray,List.map_cons,List.map_nil,hx,hy,hf]) h
theorem RowAt.far_block {K:IntKind} {w:World} {b o n:Nat} {X:Nat→Nat} (h:RowAt K w b o n X) (k p:Nat) (vs:List Value) (hk:b≠k):RowAt K (w.setCells k p vs) b o n X:=fun j hj=>by
 have hb:(w.setCells k p vs).heap[b]? = w.heap[b]?:=heap_setCells_other k vs p w b hk
 exact ⟨(World.cell?_of_block (w:=w) hb).trans (h j hj).1,(World.frozen?_of_block (w:=w) hb).trans (h j hj).2⟩
theorem freshP' (w:World):RW (w.alloc (.cells zP 162)) w.heap.size 0 (i32 (fun _=>0) (fun _=>0)):=by rw [zP_eq];exact RW.fresh w _ _
theorem inv_mulE (x z e:Nat) (h:pF - 2=e):fmul x (z ^ e)%pF=fmul x (finv z):=by
 unfold fmul finv
 rw [h,Nat.mod_mod,Nat.mul_mod_mod]
abbrev qz8x3:Oper:=oN 11 (Op.alloc 162) 0 "ref.go:54" #[]
abbrev qz8x1:Oper:=oN 40 (cF1 119 #[Operand.const (Value.int IntKind.i64 1)] #[3]) 92 "ref.go:54" #[]
abbrev qz8x4:Oper:=oS (Op.store 162 (oT 11) (oT 41)) "ref.go:54" #[jD 3,jD 2,jC 1,jP 0,jP 1,jP 2,jP 3]
set_option maxRecDepth 20000 in
set_option maxHeartbeats 16000000 in
theorem rlmul_good (v u:Value) (bs cs:Nat→Nat) (hbs:∀ j,bs j<256) (hcs:∀ j,cs j<256) (w:World) (hv:BytesIn w v 32 bs) (hu:BytesIn w u 32 cs):Calls Tryz.prog 71 #[v,u] w fun e w'=>∃ s,e = .returned (.tuple #[s,.int .i64 0])∧BytesIn w' s 32 (byt (mulL (clB bs) (ofB (loB cs) 32%pF)))∧Below w.heap.size w w':=by
 have hz:=zeroR
 have hzp:=zeroP
 have hC:=rclamp_good v bs hbs w hv
 have hKl:=clB_lt hbs
 generalize clB bs=K at *
 obtain ⟨NN,hNN⟩:∃ N,N=ofB (loB cs) 32%pF:=⟨_,rfl⟩
 have hNl:NN<pF:=by rw [hNN];exact Nat.mod_lt _ (by decide)
 obtain ⟨q1,hq1⟩:∃ q,q=cs 31%128:=⟨_,rfl⟩
 have eq1:bits .and .u8 (cs 31:Int) 127=(q1:Int):=by rw [hq1];exact and_127 _ (hcs 31)
 have hq3:∀ j,j<32→upd cs 31 q1 j=loB cs j:=fun j _=>by
  unfold loB upd;rw [hq1]
 have hul3:∀ j,upd cs 31 q1 j<256:=fun j=>by
  unfold upd;rw [hq1]
  have:=hcs 31
  split
  · omega
  · exact hcs j
 obtain ⟨X1,hX1⟩:∃ X,X=fromL (upd cs 31 q1):=⟨_,rfl⟩
 have hX:Rep X1 NN:=by
  rw [hX1,hNN,←ofB_congr 32 hq3]
  exact (rep_from _ hul3).cast (by rw [Nat.mod_mod])
 have hF:∀ s W,BytesIn W s 32 (upd cs 31 q1)→Calls Tryz.prog 117 #[s] W fun e w'=>e = .returned (.agg (i16 X1).toArray)∧Below W.heap.size W w':=fun s W h=>by
  rw [hX1];exact rfrom s _ hul3 W h
 rw [←hNN]
 clear hX1 hNN hq1 hq3 hul3
 obtain ⟨A1,hA1⟩:∃ A,A=carryL (smL 1):=⟨_,rfl⟩
 obtain ⟨A0,hA0⟩:∃ A,A=carryL (smL 0):=⟨_,rfl⟩
 have hS1:∀ W,Calls Tryz.prog 119 #[.int .i64 1] W fun e w'=>e = .returned (.agg (i16 A1).toArray)∧Below W.heap.size W w':=fun W=>by rw [hA1];exact rsmall_any 1 (by decide) (by decide) W
 have hS0:∀ W,Calls Tryz.prog 119 #[.int .i64 0] W fun e w'=>e = .returned (.agg (i16 A0).toArray)∧Below W.heap.size W w':=fun W=>by rw [hA0];exact rsmall_any 0 (by decide) (by decide) W
 have hS2:=hS1
 have hc0:Hid (climbR X1 K 0=⟨A1,A0,X1,A1⟩):=Hid.mk' (by rw [hA1,hA0];rfl)
 clear hA1 hA0
 obtain ⟨xu,cu,rfl,hun,-,hsrc⟩:=hu.src
 clear hu hv hbs hcs
 have z0:=put1 q1
 obtain ⟨M,hM⟩:∃ M,M=mulL K NN:=⟨_,rfl⟩
 rw [←hM]
 have HM:Hid (fmul (climbL NN K 255).xl (finv (climbL NN K 255).zl)=M):=Hid.mk' hM.symm
 clear hM
 go_enter Tryz.func71,Tryz.ntmps71
 go_upto_region 8 with (first
  | (go_at_call 104;refine hC.mono ?_;clear hC;rintro e w1 ⟨s1,rfl,⟨g0,cap0,rfl,hcap0,hg0,r0⟩,hb1⟩;(have src0:=hsrc (w1.alloc (.cells #[] 5)) (hb1.alloc hb1.size _));clear hsrc)
  | (at_builtin;refine wpList_append_empty rfl (.tmp 25) (.tmp 26) rfl w1.heap.size cs _ rfl rfl xu 32 cu rfl src0 hun (by omega) (Nat.le_refl _) ?_;intro v4 w4 own4 hb4;clear src0;(obtain ⟨g4,cap4,hv4,hg4,hgl4,hcap4,row4⟩:∃ g cap,v4 = .slice (some ⟨g,0,none⟩) 32 cap∧w1.heap.size≤g∧g<w4.heap.size∧32≤cap∧RowAt .u8 w4 g 0 32 cs:=own4.form.resolve_left (fun h=>by omega));subst hv4;clear own4;(have c31:=(row4 31 (by decide)).1);(have f31:=(row4 31 (by decide)).2);rw [Nat.zero_add] at c31 f31;(obtain ⟨V4,hV4,rz,hbV4⟩:=z0 _ _ _ _ row4 hb4 hg4);(have HV4:=Hid.mk' hV4);clear hV4 z0 row4 hb4;(replace r0:=r0.below hbV4 (block_lt_of_cell (r0 0 (by decide)).1));(have hbw4:=below_next hb1 hbV4);clear hb1 hbV4)
  | (go_at_call 117;rw [←HV4.out];refine (hF _ _ (cap_src rz hcap4)).mono ?_;clear hF HV4 rz c31 f31;rintro e w5 ⟨rfl,hb5⟩;(replace r0:=r0.below hb5 (block_lt_of_cell (r0 0 (by decide)).1));(have hbw5:=below_next hbw4 hb5);clear hbw4 hb5;(have t5:=freshRt w5 X1);(have z5:=freshR' w5);(obtain ⟨V6,hV6⟩:∃ V,V=(w5.alloc (.cells zI 92)).setCells w5.heap.size 0 (i16 X1):=⟨_,rfl⟩);(have hx:RW V6 w5.heap.size 0 (i16 X1):=by rw [hV6];exact z5.stored (i16 X1) (by rw [i16_len,i16_len]));(have bV6:Below w5.heap.size w5 V6:=by rw [hV6];exact below_setCells (Nat.le_refl _) _ _ _ ((Below.refl _ _).alloc (Nat.le_refl _) _));(have HV6:=Hid.mk' hV6);clear hV6 z5)
  | (go_at_call 119;refine (hS1 _).mono ?_;clear hS1;rintro e w7 ⟨rfl,hb7⟩;(replace hx:=(hx.still hb7));(have hbw7:=below_next (below_next hbw5 bV6) hb7);(replace r0:=(r0.below bV6 (block_lt_of_cell (r0 0 (by decide)).1)).below hb7 (Nat.lt_of_lt_of_le (block_lt_of_cell (r0 0 (by decide)).1) bV6.size));clear hbw5 bV6 hb7)
  | (go_at_call 119;refine (hS0 _).mono ?_;clear hS0;rintro e w8 ⟨rfl,hb8⟩;(replace hx:=(hx.still hb8));(have hbw8:=below_next hbw7 hb8);(replace r0:=r0.below hb8 (block_lt_of_cell (r0 0 (by decide)).1));(have k010:g0≠w8.heap.size:=Nat.ne_of_lt (block_lt_of_cell (r0 0 (by decide)).1));(have n910:w5.heap.size≠w8.heap.size:=Nat.ne_of_lt hx.lt);clear hbw7 hb8;(have z8:=freshP' w8);(have t8:(w8.alloc (.cells zP 162)).there w8.heap.size 0 (i32 A1 A0).toArray.size:=there32 z8);(obtain ⟨V9,hV9⟩:∃ V,V=(w8.alloc (.cells zP 162)).setCells w8.heap.size 0 (i32 A1 A0):=⟨_,rfl⟩);(have hp:RW V9 w8.heap.size 0 (i32 A1 A0):=by rw [hV9];exact z8.stored (i32 A1 A0) (by rw [i32_len,i32_len]));(have bV9:Below w8.heap.size w8 V9:=by rw [hV9];exact below_setCells (Nat.le_refl _) _ _ _ ((Below.refl _ _).alloc (Nat.le_refl _) _));(have HV9:=Hid.mk' hV9);clear hV9 z8)
  | (refine rl_build2 rfl 162 0 1 _ _ rfl (rV A1) (rV A0) rfl rfl (i32 A1 A0).toArray (builtP A1 A0) ?_)
  | (with_reducible (refine id (?_:wpList _ _ _ _ _ _));refine wpList_store_mid rfl 92 _ _ rfl w5.heap.size 0 (i16 X1).toArray rfl rfl t5 (infoIA X1) (oneI X1) ?_;rw [List.toList_toArray,←HV6.out];clear t5 HV6)
  | (with_reducible (refine id (?_:wpList _ _ _ _ _ _));refine wpList_store_mid rfl 162 _ _ rfl w8.heap.size 0 (i32 A1 A0).toArray rfl rfl t8 (infoQA _ _) (oneQ _ _) ?_;rw [List.toList_toArray,←HV9.out];clear t8 HV9))
 dsimp only [Act.put]
 replace hx:=hx.still bV9
 have hbw9:=below_next hbw8 bV9
 replace r0:=r0.below bV9 (block_lt_of_cell (r0 0 (by decide)).1)
 have w10:w.heap.size≤w8.heap.size:=hbw8.size
 generalize w5.heap.size=g9 at *
 generalize w8.heap.size=g10 at *
 clear hbw8 bV9 hg4 hgl4
 go_cut [11] from 13 (fun s11 wc=>∃ g11,s11 = .pointer (some ⟨g11,0,none⟩)∧Below V9.heap.size V9 wc∧V9.heap.size≤g11∧RW wc g11 0 (i32 X1 A1))
 case first =>
  have hdrew:Below V9.heap.size V9 V9.drew:=(Below.refl _ _).drew
  replace hx:=hx.still hdrew
  refine wp_region_noPanic ?_
  refine wp_region_held_drew (S:=fun w'=>Below V9.drew.heap.size V9.drew w') (by kernel_rfl) (Below.refl _ _) (fun hS => ?_)
  generalize V9.drew=Vz8_ at *
  refine tk 0 (rV X1) hS (hy:=(ldH hx 92 9 Tryz.underlying92 (infoI _))) (h := ?_)
  (try simp only [pS])
  refine wpAnyH_ready (rs:=[1,3]) (by kernel_rfl) (by simp) ?_
  refine AllReadyH.cons (o:=qz8x1) rfl (fun K hK => ?_) (AllReadyH.cons (o:=qz8x3) rfl (fun K hK => ?_) (AllReadyH.nil))
  · unfold qz8x1
    go_simp
    (go_at_call 119;refine (hS2 _).mono ?_;rintro e wz8_1 ⟨rfl,hbz8_1⟩)
    (try go_simp)
    have hSz8_1:=below_next hS hbz8_1
    refine hK.out _ _ hSz8_1 (fun h => ?_)
    clear h hK K hbz8_1
    (try simp only [pS])
    refine tk 2 (pV X1 A1) hSz8_1 (hy:=(yields_build2 (by rfl) 162 0 1 _ _ rfl (rV X1) (rV A1) rfl rfl _ (builtP X1 A1))) (h := ?_)
    (try simp only [pS])
    refine wpAnyH_ready (rs:=[3]) (by kernel_rfl) (by simp) ?_
    refine AllReadyH.cons (o:=qz8x3) rfl (fun K hK => ?_) (AllReadyH.nil)
    unfold qz8x3
    go_simp
    obtain ⟨wz8_2,gz8_2,hwz8_2,hgz8_2,hbz8_2,rz8_2⟩:=freshP wz8_1
    rw [hwz8_2,hgz8_2]
    have hSz8_2:=below_next hSz8_1 hbz8_2
    have Gz8_2:Vz8_.heap.size≤gz8_2:=by have:=hSz8_1.size;omega
    refine hK.out _ _ hSz8_2 (fun h => ?_)
    clear h hK K hbz8_2 hwz8_2 hgz8_2
    (try simp only [pS])
    refine wpAnyH_ready (rs:=[4]) (by kernel_rfl) (by simp) ?_
    refine AllReadyH.cons (o:=qz8x4) rfl (fun K hK => ?_) (AllReadyH.nil)
    unfold qz8x4
    rw [if_pos (by rfl)]
    refine pair_store _ _ rfl gz8_2 (fun _=>0) (fun _=>0) X1 A1 rfl rfl rz8_2 hSz8_2 Gz8_2 (fun wz8_3 r0 hSz8_3 far => ?_)
    refine hK.out _ _ hSz8_3 (fun h => ?_)
    clear h hK K rz8_2 far
    have rz8_2:=r0
    clear r0
    (try dsimp only [Act.put])
    refine wpAnyH_done (by kernel_rfl) ?_ _
    refine NoPanic.normal ?_
    go_wp2
    go_meet
    case rel=>exact ⟨gz8_2,rfl,below_next hdrew hSz8_3,Nat.le_trans hdrew.size Gz8_2,rz8_2⟩
  · unfold qz8x3
    go_simp
    obtain ⟨wz8_4,gz8_4,hwz8_4,hgz8_4,hbz8_4,rz8_4⟩:=freshP Vz8_
    rw [hwz8_4,hgz8_4]
    have hSz8_4:=below_next hS hbz8_4
    have Gz8_4:Vz8_.heap.size≤gz8_4:=by have:=hS.size;omega
    refine hK.out _ _ hSz8_4 (fun h => ?_)
    clear h hK K hbz8_4 hwz8_4 hgz8_4
    (try simp only [pS])
    refine cl 1 (hS2 _) ?_
    (rintro e wz8_5 ⟨rfl,hbz8_5⟩)
    have hSz8_5:=below_next hSz8_4 hbz8_5
    replace rz8_4:=rz8_4.still hbz8_5
    refine ⟨_,rfl,hSz8_5,?_⟩
    clear hbz8_5
    (try simp only [pS])
    refine tk 2 (pV X1 A1) hSz8_5 (hy:=(yields_build2 (by rfl) 162 0 1 _ _ rfl (rV X1) (rV A1) rfl rfl _ (builtP X1 A1))) (h := ?_)
    (try simp only [pS])
    refine wpAnyH_ready (rs:=[4]) (by kernel_rfl) (by simp) ?_
    refine AllReadyH.cons (o:=qz8x4) rfl (fun K hK => ?_) (AllReadyH.nil)
    unfold qz8x4
    rw [if_pos (by rfl)]
    refine pair_store _ _ rfl gz8_4 (fun _=>0) (fun _=>0) X1 A1 rfl rfl rz8_4 hSz8_5 Gz8_4 (fun wz8_6 r0 hSz8_6 far => ?_)
    refine hK.out _ _ hSz8_6 (fun h => ?_)
    clear h hK K rz8_4 far
    have rz8_4:=r0
    clear r0
    (try dsimp only [Act.put])
    refine wpAnyH_done (by kernel_rfl) ?_ _
    refine NoPanic.normal ?_
    go_wp2
    go_meet
    case rel=>exact ⟨gz8_4,rfl,below_next hdrew hSz8_6,Nat.le_trans hdrew.size Gz8_4,rz8_4⟩
 case rest =>
 obtain ⟨g11,rfl,hb11,hg11,hq⟩:=hcut
 have l9:=hx.lt
 have l10:=hp.lt
 have n911:g9≠g11:=by omega
 have n1011:g10≠g11:=by omega
 have k011:g0≠g11:=Nat.ne_of_lt (Nat.lt_of_lt_of_le (block_lt_of_cell (r0 0 (by decide)).1) hg11)
 have w11:w.heap.size≤g11:=Nat.le_trans hbw9.size hg11
 clear l9 l10
 replace hx:=hx.still hb11
 replace hp:=hp.still hb11
 replace r0:=r0.below hb11 (block_lt_of_cell (r0 0 (by decide)).1)
 have hbw:=below_next hbw9 hb11
 clear hb11 hg11 hbw9 hS2
 go_wp2
 go_loopw [12] (fun i wr=>∃ j:Nat,j≤255∧i = .int .i64 (254 - (j:Int))∧RW wr g9 0 (i16 X1)∧RW wr g10 0 (i32 (climbR X1 K j).xl (climbR X1 K j).zl)∧RW wr g11 0 (i32 (climbR X1 K j).xh (climbR X1 K j).zh)∧RowAt .u8 wr g0 0 32 K∧Below w.heap.size w wr) (fun i _=>256 - (255 - (intOf i+1)).toNat)
 case atStart=>exact ⟨0,Nat.zero_le _,by go_num,hx,by rw [hc0.out];exact hp,by rw [hc0.out];exact hq,r0,hbw⟩
 case round =>
  obtain ⟨j,hj,rfl,kx,kp,kq,kr,kb⟩:=hrel
  clear hx hp hq r0 hbw hc0
  have hrep:=climbR_rep hNl hX K j
  have hok:=climbL_ok NN hNl K j
  by_cases hj2:j<255
  · have hnext:climbR X1 K (j+1)=if bitN K (254 - j) then (stepR X1 (climbR X1 K j).flip).flip else stepR X1 (climbR X1 K j):=rfl
    obtain ⟨r,hr⟩:∃ r,r=climbR X1 K j:=⟨_,rfl⟩
    rw [←hr] at kp kq hrep hnext
    clear hr
    obtain ⟨s4,hs4⟩:∃ s,s=climbL NN K j:=⟨_,rfl⟩
    rw [←hs4] at hrep hok
    clear hs4
    have cc:=(kr ((254 - j) / 8) (by omega)).1
    rw [Nat.zero_add] at cc
    have hi8:(254 - (j:Int)).toNat=254 - j:=by omega
    have hge:¬(254 - (j:Int)<0):=by omega
    have hbit:(bits .and .u8 ((K ((254 - j) / 8):Int) / 2 ^ ((254 - j)%8)) 1 == 1)=bitN K (254 - j):=bit_eq K hKl (254 - j)
    cases hb:bitN K (254 - j) with
    | true =>
     rw [hb] at hbit hnext
     rw [if_pos rfl] at hnext
     have kk:∀ W,Calls Tryz.prog 135 #[.agg (i16 X1).toArray,.agg (i32 r.xh r.zh).toArray,.agg (i32 r.xl r.zl).toArray] W fun e w'=>e = .returned (.tuple #[.agg (i32 (stepR X1 r.flip).xl (stepR X1 r.flip).zl).toArray,.agg (i32 (stepR X1 r.flip).xh (stepR X1 r.flip).zh).toArray])∧Below W.heap.size W w':=fun W=>rstep_any X1 NN r.flip s4.flip hX hrep.flip ⟨hok.xh,hok.zh,hok.xl,hok.zl⟩ W
     have hn:=Hid.mk' hnext
     clear hnext hrep hok hb
     obtain ⟨R,hR⟩:∃ R,R=stepR X1 r.flip:=⟨_,rfl⟩
     rw [←hR] at kk
     have HR:=Hid.mk' hR
     clear hR
     go_wp2_with (first
      | (refine wpList_load_mid rfl 92 _ rfl g9 0 rfl (i16 X1) _ kx.range Tryz.underlying92 rfl (infoI X1) ?_)
      | (refine wpList_load_mid rfl 162 _ rfl g11 0 rfl (i32 r.xh r.zh) _ kq.range Tryz.underlying162 rfl (infoQ _ _) ?_)
      | (refine wpList_load_mid rfl 162 _ rfl g10 0 rfl (i32 r.xl r.zl) _ kp.range Tryz.underlying162 rfl (infoQ _ _) ?_)
      | (go_at_call 135;refine (kk _).mono ?_;clear kk;rintro e w9 ⟨rfl,hb9⟩;clear cc hbit;(replace kx:=kx.still hb9);(replace kp:=kp.still hb9);(replace kq:=kq.still hb9);(replace kr:=kr.below hb9 (block_lt_of_cell (kr 0 (by decide)).1));(replace kb:=below_next kb hb9);clear hb9;(have tA:w9.there g11 0 (i32 R.xl R.zl).toArray.size:=there32 kq);(obtain ⟨V1,hV1⟩:∃ V,V=w9.setCells g11 0 (i32 R.xl R.zl):=⟨_,rfl⟩);(replace kq:=kq.stored (i32 R.xl R.zl) (by rw [i32_len,i32_len]));(replace kp:=kp.far g11 0 (i32 R.xl R.zl) (.inl n1011));(replace kx:=kx.far g11 0 (i32 R.xl R.zl) (.inl n911));(replace kr:=RowAt.far_block kr g11 0 (i32 R.xl R.zl) k011);(replace kb:=below_setCells w11 (i32 R.xl R.zl) 0 _ kb);rw [←hV1] at kx kp kq kr kb;(have H1:=Hid.mk' hV1);clear hV1;(have tB:V1.there g10 0 (i32 R.xh R.zh).toArray.size:=there32 kp);(obtain ⟨V2,hV2⟩:∃ V,V=V1.setCells g10 0 (i32 R.xh R.zh):=⟨_,rfl⟩);(replace kp:=kp.stored (i32 R.xh R.zh) (by rw [i32_len,i32_len]));(replace kq:=kq.far g10 0 (i32 R.xh R.zh) (.inl n1011.symm));(replace kx:=kx.far g10 0 (i32 R.xh R.zh) (.inl n910));(replace kr:=RowAt.far_block kr g10 0 (i32 R.xh R.zh) k010);(replace kb:=below_setCells w10 (i32 R.xh R.zh) 0 _ kb);rw [←hV2] at kx kp kq kr kb;(have H2:=Hid.mk' hV2);clear hV2)
      | (with_reducible (refine id (?_:wpList _ _ _ _ _ _));refine wpList_store_mid rfl 162 _ _ rfl g11 0 (i32 R.xl R.zl).toArray rfl rfl tA (infoQA _ _) (oneQ _ _) ?_;rw [List.toList_toArray,←H1.out];clear tA)
      | (with_reducible (refine id (?_:wpList _ _ _ _ _ _));refine wpList_store_mid rfl 162 _ _ rfl g10 0 (i32 R.xh R.zh).toArray rfl rfl tB (infoQA _ _) (oneQ _ _) ?_;rw [List.toList_toArray,←H2.out];clear tB))
     go_roundw
     case rel=>exact ⟨j+1,by omega,by go_num,kx,by rw [hn.out,←HR.out];exact kp,by rw [hn.out,←HR.out];exact kq,kr,kb⟩
     case measure=>simp [intOf];omega
    | false =>
     rw [hb] at hbit hnext
     rw [if_neg (by decide)] at hnext
     have kk:∀ W,Calls Tryz.prog 135 #[.agg (i16 X1).toArray,.agg (i32 r.xl r.zl).toArray,.agg (i32 r.xh r.zh).toArray] W fun e w'=>e = .returned (.tuple #[.agg (i32 (stepR X1 r).xl (stepR X1 r).zl).toArray,.agg (i32 (stepR X1 r).xh (stepR X1 r).zh).toArray])∧Below W.heap.size W w':=fun W=>rstep_any X1 NN r s4 hX hrep hok W
     have hn:=Hid.mk' hnext
     clear hnext hrep hok hb
     obtain ⟨R,hR⟩:∃ R,R=stepR X1 r:=⟨_,rfl⟩
     rw [←hR] at kk
     have HR:=Hid.mk' hR
     clear hR
     go_wp2_with (first
      | (refine wpList_load_mid rfl 92 _ rfl g9 0 rfl (i16 X1) _ kx.range Tryz.underlying92 rfl (infoI X1) ?_)
      | (refine wpList_load_mid rfl 162 _ rfl g10 0 rfl (i32 r.xl r.zl) _ kp.range Tryz.underlying162 rfl (infoQ _ _) ?_)
      | (refine wpList_load_mid rfl 162 _ rfl g11 0 rfl (i32 r.xh r.zh) _ kq.range Tryz.underlying162 rfl (infoQ _ _) ?_)
      | (go_at_call 135;refine (kk _).mono ?_;clear kk;rintro e w9 ⟨rfl,hb9⟩;clear cc hbit;(replace kx:=kx.still hb9);(replace kp:=kp.still hb9);(replace kq:=kq.still hb9);(replace kr:=kr.below hb9 (block_lt_of_cell (kr 0 (by decide)).1));(replace kb:=below_next kb hb9);clear hb9;(have tA:w9.there g10 0 (i32 R.xl R.zl).toArray.size:=there32 kp);(obtain ⟨V1,hV1⟩:∃ V,V=w9.setCells g10 0 (i32 R.xl R.zl):=⟨_,rfl⟩);(replace kp:=kp.stored (i32 R.xl R.zl) (by rw [i32_len,i32_len]));(replace kq:=kq.far g10 0 (i32 R.xl R.zl) (.inl n1011.symm));(replace kx:=kx.far g10 0 (i32 R.xl R.zl) (.inl n910));(replace kr:=RowAt.far_block kr g10 0 (i32 R.xl R.zl) k010);(replace kb:=below_setCells w10 (i32 R.xl R.zl) 0 _ kb);rw [←hV1] at kx kp kq kr kb;(have H1:=Hid.mk' hV1);clear hV1;(have tB:V1.there g11 0 (i32 R.xh R.zh).toArray.size:=there32 kq);(obtain ⟨V2,hV2⟩:∃ V,V=V1.setCells g11 0 (i32 R.xh R.zh):=⟨_,rfl⟩);(replace kq:=kq.stored (i32 R.xh R.zh) (by rw [i32_len,i32_len]));(replace kp:=kp.far g11 0 (i32 R.xh R.zh) (.inl n1011));(replace kx:=kx.far g11 0 (i32 R.xh R.zh) (.inl n911));(replace kr:=RowAt.far_block kr g11 0 (i32 R.xh R.zh) k011);(replace kb:=below_setCells w11 (i32 R.xh R.zh) 0 _ kb);rw [←hV2] at kx kp kq kr kb;(have H2:=Hid.mk' hV2);clear hV2)
      | (with_reducible (refine id (?_:wpList _ _ _ _ _ _));refine wpList_store_mid rfl 162 _ _ rfl g10 0 (i32 R.xl R.zl).toArray rfl rfl tA (infoQA _ _) (oneQ _ _) ?_;rw [List.toList_toArray,←H1.out];clear tA)
      | (with_reducible (refine id (?_:wpList _ _ _ _ _ _));refine wpList_store_mid rfl 162 _ _ rfl g11 0 (i32 R.xh R.zh).toArray rfl rfl tB (infoQA _ _) (oneQ _ _) ?_;rw [List.toList_toArray,←H2.out];clear tB))
     go_roundw
     case rel=>exact ⟨j+1,by omega,by go_num,kx,by rw [hn.out,←HR.out];exact kp,by rw [hn.out,←HR.out];exact kq,kr,kb⟩
     case measure=>simp [intOf];omega
  · obtain rfl:j=255:=by omega
    have kpX:RW wr g10 0 (i16 (climbR X1 K 255).xl):=kp.left
    have kpZ:RW wr g10 16 (i16 (climbR X1 K 255).zl):=by have:=kp.right;rwa [i16_len] at this
    have hm:=HM.out
    clear HM
    have hrx:=hrep.xl
    have hrz:=hrep.zl
    clear hrep kp
    generalize (climbR X1 K 255).xl=XX at *
    generalize (climbR X1 K 255).zl=ZZ at *
    generalize (climbL NN K 255).xl=xx at *
    generalize (climbL NN K 255).zl=zz at *
    clear kq kx kr hok hj hj2
    obtain ⟨E,hE⟩:∃ E:Nat,57896044618658097711785492504343953926634992332820282019728792003956564819947=E:=⟨_,rfl⟩
    have hE2:pF - 2=E:=by rw [←hE];decide
    have hI:=fun W=>rinverse_any ZZ zz hrz W
    rw [hE] at hI
    clear hE
    go_upto_region 15 with (fail)

    have hdrew:Below wr.heap.size wr wr.drew:=(Below.refl _ _).drew
    replace kpX:=kpX.still hdrew
    replace kpZ:=kpZ.still hdrew
    refine wp_region_noPanic ?_
    refine wp_region_held_drew (S:=fun w'=>Below wr.drew.heap.size wr.drew w') (by kernel_rfl) (Below.refl _ _) (fun hS => ?_)
    generalize wr.drew=Vz15_ at *
    refine tk 0 (pA g10 0) hS (hy:=yR) (h := ?_)
    (try simp only [pS])
    refine tk 1 (rV XX) hS (hy:=(ldH kpX 92 71 Tryz.underlying92 (infoI _))) (h := ?_)
    (try simp only [pS])
    refine tk 2 (pA g10 16) hS (hy:=yR) (h := ?_)
    (try simp only [pS])
    refine tk 3 (rV ZZ) hS (hy:=(ldH kpZ 92 73 Tryz.underlying92 (infoI _))) (h := ?_)
    (try simp only [pS])
    refine cl 4 (hI _) ?_
    (clear hI;rintro e wz15_1 ⟨RR,rfl,hRR,hbz15_1⟩)
    have hSz15_1:=below_next hS hbz15_1
    refine ⟨_,rfl,hSz15_1,?_⟩
    clear hbz15_1
    (try simp only [pS])
    refine cl 5 (rtimes_any XX RR hrx.bd hRR.bd _) ?_
    (rintro e wz15_2 ⟨rfl,hbz15_2⟩)
    have hSz15_2:=below_next hSz15_1 hbz15_2
    refine ⟨_,rfl,hSz15_2,?_⟩
    clear hbz15_2
    (try simp only [pS])
    refine cl 6 (rbytes (timesL XX RR) ((rw_times hrx.wide hRR.wide).dig.mono (by decide)) _ (rw_times hrx.wide hRR.wide).val _) ?_
    (rintro e wz15_3 ⟨vv,rfl,own,hbz15_3⟩)
    have hSz15_3:=below_next hSz15_2 hbz15_3
    refine ⟨_,rfl,hSz15_3,?_⟩
    clear hbz15_3
    (try simp only [pS])
    refine tg 7 hSz15_3 ?_
    (try simp only [pS])
    refine tg 8 hSz15_3 ?_
    (try simp only [pS])
    refine wpAnyH_done (by kernel_rfl) ?_ _
    refine NoPanic.normal ?_
    rw [inv_mulE _ _ _ hE2,hm] at own
    go_wp2
    exact bodyPost_ret (results_tmp2 rfl _ _ _) rfl ⟨_,rfl,BytesIn.of_own own,(kb.trans (hdrew.mono kb.size)).trans (hSz15_3.mono (Nat.le_trans kb.size hdrew.size))⟩
end Go.Proofs.YtibdhadbflfdpaaGreatDoor
namespace Go.Proofs.YtibdhadbflfdpaaGreatDoor
open Go.RowKit
set_option maxRecDepth 20000 in
set_option maxHeartbeats 2000000 in
theorem rnine_any (w:World):Calls Tryz.prog 72 #[] w fun e w'=>∃ s,e = .returned s∧BytesIn w' s 32 (byt 9)∧Below w.heap.size w w':=by
 have hmk:=make_bytes w 32 32 rfl (by decide)
 obtain ⟨W,hW⟩:∃ W,W=w.alloc (.cells (zb 32) 5):=⟨_,rfl⟩
 have hrow:RowAt .u8 W w.heap.size 0 32 (fun _=>0):=by rw [hW];exact RowAt.fresh (fun j hj=>zb_at 32 j hj)
 have hb:Below w.heap.size w W:=by rw [hW];exact (Below.refl _ _).alloc (Nat.le_refl _) _
 rw [←hW] at hmk
 clear hW
 have hc:=(hrow 0 (by decide)).1
 have hf:=(hrow 0 (by decide)).2
 have hs:=hrow.set (i:=0) (by decide) (v:=9) (u:=9) rfl
 rw [Nat.zero_add] at hc hf hs
 go_enter Tryz.func72,Tryz.ntmps72
 go_wp2_with (rw [hmk])
 go_ret
 have hr:=hs.congr (Y:=byt 9) (fun j hj=>by
  rw [←byt_small 9 j (by decide)]
  unfold upd;rfl)
 exact ⟨_,rfl,.inr ⟨w.heap.size,0,32,rfl,block_lt_of_cell (hr 0 (by decide)).1,Nat.le_refl _,fun j hj=>(hr j hj).1⟩,below_setCells (Nat.le_refl _) [_] 0 _ hb⟩
set_option maxRecDepth 20000 in
set_option maxHeartbeats 2000000 in
theorem rpublic_good (v:Value) (bs:Nat→Nat) (hbs:∀ j,bs j<256) (w:World) (hv:BytesIn w v 32 bs):Calls Tryz.prog 34 #[v] w fun e w'=>∃ s,e = .returned (.tuple #[s,.int .i64 0])∧BytesIn w' s 32 (byt (mulL (clB bs) 9))∧Below w.heap.size w w':=by
 have hS:=fun W=>rnine_any W
 have hM:∀ u W,BytesIn W u 32 (byt 9)→Below w.heap.size w W→Calls Tryz.prog 71 #[v,u] W fun e w'=>∃ s,e = .returned (.tuple #[s,.int .i64 0])∧BytesIn w' s 32 (byt (mulL (clB bs) 9))∧Below W.heap.size W w':=fun u W h hb=>by
  have:=rlmul_good v u bs (byt 9) hbs (byt_all 9) W (hv.still hb) h
  rwa [nine_of] at this
 go_enter Tryz.func34,Tryz.ntmps34
 go_wp2_with (first
  | (go_at_call 72;refine (hS _).mono ?_;clear hS;rintro e w1 ⟨s1,rfl,h1,hb1⟩)
  | (go_at_call 71;refine (hM _ _ h1 hb1).mono ?_;clear hM;rintro e w3 ⟨s,rfl,hs,hb3⟩))
 exact bodyPost_ret (results_tmp2 rfl _ _ _) rfl ⟨_,rfl,hs,below_next hb1 hb3⟩
set_option maxRecDepth 20000 in
set_option maxHeartbeats 2000000 in
theorem rshared_none (v u:Value) (X:Nat→Nat) (hX:∀ j,j<32→X j=0) (w:World) (hM:Calls Tryz.prog 71 #[v,u] w fun e w'=>∃ s,e = .returned (.tuple #[s,.int .i64 0])∧BytesIn w' s 32 X∧Below w.heap.size w w'):Calls Tryz.prog 142 #[v,u] w fun e w'=>e = .returned (.tuple #[.slice none 0 0,.int .i64 30])∧Below w.heap.size w w':=by
 go_enter Tryz.func142,Tryz.ntmps142
 go_wp2_with (go_at_call 71;refine hM.mono ?_;clear hM;rintro e w1 ⟨s,rfl,hs,hb1⟩;(obtain ⟨bb,ob,cap,hsl,hl,hcap,hc⟩:∃ bb ob cap,s = .slice (some ⟨bb,ob,none⟩) 32 cap∧bb<w1.heap.size∧32≤cap∧∀ j,j<32→w1.cell? ⟨bb,ob+j,none⟩=some (.int .u8 (X j)):=hs.resolve_left (fun ⟨_,_,h⟩=>by omega));subst hsl;clear hs)
 go_loopw [8] (fun i wr=>wr=w1∧∃ k:Nat,k≤32∧i = .int .i64 (k:Int)) (fun i _=>32 - (intOf i).toNat)
 case atStart=>exact ⟨rfl,0,by decide,by go_num⟩
 case round =>
  obtain ⟨hw,k,hk,rfl⟩:=hrel
  rw [hw]
  clear hw
  by_cases hk2:k<32
  · have hcc:=hc k hk2
    rw [hX k hk2] at hcc
    have h1:(k:Int)<32:=by omega
    go_wp2
    go_roundw
    case rel=>exact ⟨trivial,k+1,by omega,by go_num⟩
    case measure=>simp [intOf];omega
  · obtain rfl:k=32:=by omega
    go_wp2
    exact bodyPost_ret (results_tmp2 rfl _ _ _) rfl ⟨rfl,hb1⟩
set_option maxRecDepth 20000 in
set_option maxHeartbeats 2000000 in
theorem rshared_some (v u:Value) (X:Nat→Nat) (hX:∃ j,j<32∧X j≠0) (w:World) (hM:Calls Tryz.prog 71 #[v,u] w fun e w'=>∃ s,e = .returned (.tuple #[s,.int .i64 0])∧BytesIn w' s 32 X∧Below w.heap.size w w'):Calls Tryz.prog 142 #[v,u] w fun e w'=>∃ s,e = .returned (.tuple #[s,.int .i64 0])∧BytesIn w' s 32 X∧Below w.heap.size w w':=by
 go_enter Tryz.func142,Tryz.ntmps142
 go_wp2_with (go_at_call 71;refine hM.mono ?_;clear hM;rintro e w1 ⟨s,rfl,hs,hb1⟩;(obtain ⟨bb,ob,cap,hsl,hl,hcap,hc⟩:∃ bb ob cap,s = .slice (some ⟨bb,ob,none⟩) 32 cap∧bb<w1.heap.size∧32≤cap∧∀ j,j<32→w1.cell? ⟨bb,ob+j,none⟩=some (.int .u8 (X j)):=hs.resolve_left (fun ⟨_,_,h⟩=>by omega));subst hsl)
 go_loopw [8] (fun i wr=>wr=w1∧∃ k:Nat,k≤32∧i = .int .i64 (k:Int)∧∃ j,k≤j∧j<32∧X j≠0) (fun i _=>32 - (intOf i).toNat)
 case atStart =>
  obtain ⟨j,h1,h2⟩:=hX
  exact ⟨rfl,0,by decide,by go_num,j,Nat.zero_le _,h1,h2⟩
 case round =>
  obtain ⟨hw,k,hk,rfl,j,hkj,hj,hne⟩:=hrel
  rw [hw]
  clear hw
  have hk2:k<32:=by omega
  have hcc:=hc k hk2
  have h1:(k:Int)<32:=by omega
  by_cases h0:X k=0
  · rw [h0] at hcc
    have hkj2:k+1≤j:=by
     rcases Nat.eq_or_lt_of_le hkj with h | h
     · exact absurd (h ▸ h0) hne
     · exact h
    go_wp2
    go_roundw
    case rel=>exact ⟨trivial,k+1,by omega,by go_num,j,hkj2,hj,hne⟩
    case measure=>simp [intOf];omega
  · have h2:¬((X k:Int)=0):=by omega
    go_wp2
    exact bodyPost_ret (results_tmp2 rfl _ _ _) rfl ⟨_,rfl,hs,hb1⟩
end Go.Proofs.YtibdhadbflfdpaaGreatDoor
