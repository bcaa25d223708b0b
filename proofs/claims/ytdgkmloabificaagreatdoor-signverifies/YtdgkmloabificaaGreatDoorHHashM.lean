/- What the proof stands on: HHash, HHashM, SLoad, STake, SGuess, SRestM, SRest, SAdd, SApi, SgHash, SgCat, SApi2, SgSign. -/
import Derived.Test.YtdgkmloabificaaGreatDoorBaseM
import Derived.Test.YtdgkmloabificaaGreatDoorHSpreadM
import Derived.Test.YtdgkmloabificaaGreatDoorHSumM
import Derived.Test.YtdgkmloabificaaGreatDoorRRatioM
import Derived.Deep.Upon
import Derived.WalkMore
namespace Go.Proofs.YtdgkmloabificaaGreatDoor
open Go.RowKit
theorem made_yes (g n:Nat) (hn:(n:Int)≠0) (w:World) (hc:w.cell? ⟨g,0,none⟩=some (.int .i64 n)):Calls Tryz.prog 84 #[.pointer (some ⟨g,0,none⟩)] w fun e w'=>e = .returned (.bool true)∧w'=w:=by
 have hn':((n:Int) != 0)=true:=by simpa using hn
 go_enter Tryz.func84,Tryz.ntmps84
 go_wp2
 go_ret
 exact ⟨by simp,rfl⟩
def hashVals (n:Nat) (s t:St):List Value := .int .i64 n :: (engVals .u32 s (fun _=>0) 0 ++ engVals .u64 t (fun _=>0) 0)
theorem built512 (s:St):Tryz.prog.built 125 [(0,.int .i64 512),(2,.agg (engVals .u64 s (fun _=>0) 0).toArray)]=some (hashVals 512 zSt s).toArray:=by kernel_rfl
theorem wpList_build_to {P:Program} {ops:Array Oper} {rest:List Oper} {o:Oper} {a:Act} {w:World} {Q:Exit→Act→World→Prop} (hg:o.guard=none) (t:TypeId) (parts:Array (Nat × Operand)) (ho:o.op = .build t parts) (cells:Array Value)
 (hf:P.built t (parts.map fun (i,x)=>(i,a.eval x)).toList=some cells) (h:wpList P ops Q rest (a.put o.dst (.agg cells)) w):wpList P ops Q (o :: rest) a w :=
 wpList_build hg t parts ho (by rw [hf];rfl) (by rw [hf];exact h)
theorem wpList_build2 {P:Program} {ops:Array Oper} {rest:List Oper} {o:Oper} {a:Act} {w:World} {Q:Exit→Act→World→Prop} (hg:o.guard=none) (t:TypeId) (i j:Nat) (x y:Operand) (ho:o.op = .build t #[(i,x),(j,y)]) (u v:Value) (hx:a.eval x=u) (hy:a.eval y=v) (cells:Array Value)
 (hf:P.built t [(i,u),(j,v)]=some cells) (h:wpList P ops Q rest (a.put o.dst (.agg cells)) w):wpList P ops Q (o :: rest) a w :=
 wpList_build_to hg t _ ho cells (by simp only [List.map_toArray,List.map_cons,List.map_nil,hx,hy,hf]) h
theorem hash_wide (w:World) (n:Nat) (s t:St):EngAt .u64 (w.alloc (.cells (hashVals n s t).toArray 125)) w.heap.size 138 t (fun _=>0) 0 :=
 EngAt.of_range (fun j v hv=>by
  have hj:j<137:=by have:=(List.getElem?_eq_some_iff.1 hv).1;rwa [engVals_len] at this
  have:(hashVals n s t)[138+j]? = some v:=by
   rw [show 138+j=(137+j)+1 by omega,hashVals,List.getElem?_cons_succ,List.getElem?_append_right (by rw [engVals_len];omega),engVals_len,show 137+j - 137=j by omega];exact hv
  simp [this]) (fun j hj=>by simp)
theorem hash_bits (w:World) (n:Nat) (s t:St):(w.alloc (.cells (hashVals n s t).toArray 125)).cell? ⟨w.heap.size,0,none⟩=some (.int .i64 n):=by simp [hashVals]
set_option maxHeartbeats 400000 in
theorem new512_any (q:Nat→Nat) (hq:∀ j,q j<18446744073709551616) (w:World) (hsq:∀ j,j<8→w.cell? ⟨3,j,none⟩=some (.int .u64 (q j))) (hru:Rules64 w 0) :
 Calls Tryz.prog 42 #[.int .i64 512] w fun e w'=>∃ g,e = .returned (.pointer (some ⟨g,0,none⟩))∧w.heap.size≤g∧w'.cell? ⟨g,0,none⟩=some (.int .i64 512)∧EngAt .u64 w' g 138 (firstS rw6 q) (fun _=>0) 0∧Below w.heap.size w w':=by
 obtain ⟨p0,p1,p2,p3,p4,p5,p6,p7,p8,p9,p10,p11,p12,p13⟩:=hru
 go_enter Tryz.func42,Tryz.ntmps42
 go_wp2_with (first
  | (go_at_call 78;refine (start64_any q hq _ hsq).mono ?_;rintro e w' ⟨rfl,hb⟩;clear hsq)
  | (refine wpList_build2 rfl 125 0 2 (.tmp 13) (.tmp 15) rfl (.int .i64 512) (.agg (engVals .u64 (firstS rw6 q) (fun _=>0) 0).toArray) rfl rfl (hashVals 512 zSt (firstS rw6 q)).toArray (built512 (firstS rw6 q)) ?_))
 go_ret
 have e1:=hash_bits w' 512 zSt (firstS rw6 q)
 have e2:=hash_wide w' 512 zSt (firstS rw6 q)
 exact ⟨w'.heap.size,rfl,hb.size,e1,e2,hb.alloc hb.size _⟩
end Go.Proofs.YtdgkmloabificaaGreatDoor
namespace Go.Proofs.YtdgkmloabificaaGreatDoor
open Go.RowKit
theorem Bytes.below {w w':World} {b:Nat} {v:Value} {n:Nat} {bs:Nat→Nat} (h:Bytes w b v n bs) (hb:Below w.heap.size w w'):Bytes w' b v n bs:=by
 rcases h with h | ⟨bb,ob,cap,rfl,h1,h2,h3⟩
 · exact .inl h
 · refine .inr ⟨bb,ob,cap,rfl,h1,h2,fun j hj => ?_⟩
   have:=h3 j hj
   exact (hb.cell (p:=⟨bb,ob+j,none⟩) (block_lt_of_cell this)).trans this
theorem Out.pre {b o n:Nat} {u v w:World} (h:Below u.heap.size u v) (hb:b<u.heap.size) (k:Out b o n v w):Out b o n u w:=(Out.of_below h hb).trans k
structure Made256 (w:World) (g:Nat) (n:Nat) (bs:Nat→Nat):Prop where
 bits:w.cell? ⟨g,0,none⟩=some (.int .i64 256)
 eng:∃ s R,EngAt .u32 w g 1 s R n∧Holds rn cubeK (firstS rn squareK) n bs s R∧s.lt 4294967296∧∀ j,R j<256
theorem Made256.lt {w:World} {g n:Nat} {bs:Nat→Nat} (h:Made256 w g n bs):g<w.heap.size:=block_lt_of_cell h.bits
theorem Made256.below {w w':World} {g n:Nat} {bs:Nat→Nat} (h:Made256 w g n bs) (hb:Below w.heap.size w w'):Made256 w' g n bs:=by
 obtain ⟨s,R,h1,h2,h3,h4⟩:=h.eng
 exact ⟨(hb.cell (p:=⟨g,0,none⟩) h.lt).trans h.bits,s,R,h1.below hb,h2,h3,h4⟩
theorem Made256.congr {w:World} {g n:Nat} {bs cs:Nat→Nat} (h:Made256 w g n bs) (e:∀ j,j<n→bs j=cs j):Made256 w g n cs:=by
 obtain ⟨s,R,h1,h2,h3,h4⟩:=h.eng
 exact ⟨h.bits,s,R,h1,h2.congr e,h3,h4⟩
theorem Made256.out {b o m:Nat} {w w':World} {g n:Nat} {bs:Nat→Nat} (h:Made256 w g n bs) (hb:Out b o m w w') (hne:g≠b):Made256 w' g n bs:=by
 obtain ⟨s,R,h1,h2,h3,h4⟩:=h.eng
 exact ⟨(hb.cell' h.lt hne).trans h.bits,s,R,⟨hb.row h1.st hne,hb.row h1.rest hne,(hb.cell' h.lt hne).trans h1.cnt,(hb.frozen' h.lt hne).trans h1.cntf⟩,h2,h3,h4⟩
structure Made512 (w:World) (g:Nat) (n:Nat) (bs:Nat→Nat):Prop where
 bits:w.cell? ⟨g,0,none⟩=some (.int .i64 512)
 eng:∃ s R,EngAt .u64 w g 138 s R n∧Holds rw6 cubeK (firstS rw6 squareK) n bs s R∧s.lt 18446744073709551616∧∀ j,R j<256
theorem Made512.lt {w:World} {g n:Nat} {bs:Nat→Nat} (h:Made512 w g n bs):g<w.heap.size:=block_lt_of_cell h.bits
theorem Made512.below {w w':World} {g n:Nat} {bs:Nat→Nat} (h:Made512 w g n bs) (hb:Below w.heap.size w w'):Made512 w' g n bs:=by
 obtain ⟨s,R,h1,h2,h3,h4⟩:=h.eng
 exact ⟨(hb.cell (p:=⟨g,0,none⟩) h.lt).trans h.bits,s,R,h1.below hb,h2,h3,h4⟩
theorem Made512.congr {w:World} {g n:Nat} {bs cs:Nat→Nat} (h:Made512 w g n bs) (e:∀ j,j<n→bs j=cs j):Made512 w g n cs:=by
 obtain ⟨s,R,h1,h2,h3,h4⟩:=h.eng
 exact ⟨h.bits,s,R,h1,h2.congr e,h3,h4⟩
theorem Made512.out {b o m:Nat} {w w':World} {g n:Nat} {bs:Nat→Nat} (h:Made512 w g n bs) (hb:Out b o m w w') (hne:g≠b):Made512 w' g n bs:=by
 obtain ⟨s,R,h1,h2,h3,h4⟩:=h.eng
 exact ⟨(hb.cell' h.lt hne).trans h.bits,s,R,⟨hb.row h1.st hne,hb.row h1.rest hne,(hb.cell' h.lt hne).trans h1.cnt,(hb.frozen' h.lt hne).trans h1.cntf⟩,h2,h3,h4⟩
theorem newMade512 (w:World) (hT:HTab w cubeK squareK) (bs:Nat→Nat):Calls Tryz.prog 42 #[.int .i64 512] w fun e w'=>∃ g,e = .returned (.pointer (some ⟨g,0,none⟩))∧w.heap.size≤g∧Made512 w' g 0 bs∧Below w.heap.size w w':=by
 refine (new512_any squareK hT.qlt w hT.squares hT.wide).mono ?_
 rintro e w' ⟨g,rfl,hg,h1,h2,hb⟩
 exact ⟨g,rfl,hg,⟨h1,_,_,h2,Holds.none _ _ _ _ _,firstS_lt rw6 squareK (by decide) hT.qlt,fun _=>Nat.zero_lt_succ _⟩,hb⟩
set_option maxRecDepth 20000 in
set_option maxHeartbeats 1000000 in
theorem hwrite512_any (g c n:Nat) (v:Value) (bs b2:Nat→Nat) (hb2:∀ j,b2 j<256) (w:World) (hM:Made512 w g c bs) (hT:HTab w cubeK squareK) (h3:4<g) (hv:Bytes w g v n b2) (hcn:c+n<4611686018427387904) :
 Calls Tryz.prog 43 #[.pointer (some ⟨g,0,none⟩),v] w fun e w'=>e = .returned (.int .i64 0)∧Made512 w' g (c+n) (cat c bs b2)∧Out g 138 137 w w':=by
 obtain ⟨hbits,s,R,hE,hH,hs,hR⟩:=hM
 have hgl:g<w.heap.size:=block_lt_of_cell hbits
 have hd:Below w.heap.size w w.drew:=(Below.refl _ _).drew
 have hTd:=hT.below hd hT.size
 have hw:=write64_any cubeK hT.Klt s hs R hR g 138 c n v b2 hb2 w.drew (hE.below hd) hTd.cubes (by omega) (hv.below hd) hcn
 have hX:=writeE_lt (r:=rw6) (K:=cubeK) (c:=c) (n:=n) hs hR hb2
 have hHw:=hH.write (by decide) n b2
 obtain ⟨X,hXe⟩:∃ X,X=writeE rw6 cubeK s R c n b2:=⟨_,rfl⟩
 rw [←hXe] at hw hX hHw
 have hm:=made_yes g 512 (by decide) w hbits
 obtain ⟨p0,p1,p2,p3,p4,p5,p6,p7,p8,p9,p10,p11,p12,p13⟩:=hT.wide
 clear hT hTd hv hE hH hXe
 go_enter Tryz.func43,Tryz.ntmps43
 go_wp2_with (go_at_call 84;refine hm.mono ?_;rintro e w' ⟨rfl,hw'⟩;subst hw')
 go_region_with (go_at_call 79;refine hw.mono ?_;rintro e w5 ⟨rfl,hE5,hO5⟩)
 all_goals
  go_wp2
  go_ret
  have hO:Out g 138 137 _ w5:=Out.pre hd hgl hO5
  exact ⟨rfl,⟨(hO.cell 0 (by omega)).trans hbits,X.1,X.2,hE5,hHw,hX.1,hX.2⟩,hO⟩
set_option maxRecDepth 20000 in
set_option maxHeartbeats 1000000 in
theorem hsum512_any (g c:Nat) (bs:Nat→Nat) (w:World) (hM:Made512 w g c bs) (hT:HTab w cubeK squareK) (hc:c<2305843009213693952) :
 Calls Tryz.prog 45 #[.pointer (some ⟨g,0,none⟩)] w fun e w'=>∃ ga,e = .returned (.slice (some ⟨ga,0,none⟩) 64 64)∧w.heap.size≤ga∧RowAt .u8 w' ga 0 64 (outB 64 (specS rw6 cubeK squareK c bs))∧Below w.heap.size w w':=by
 obtain ⟨hbits,s,R,hE,hH,hs,hR⟩:=hM
 have hgl:g<w.heap.size:=block_lt_of_cell hbits
 have hd:Below w.heap.size w w.drew:=(Below.refl _ _).drew
 have hTd:=hT.below hd hT.size
 have hsum:=sum64_any cubeK hT.Klt s hs R hR c hc w.drew hTd.cubes
 rw [hH.end (by decide)] at hsum
 have hm:=made_yes g 512 (by decide) w hbits
 obtain ⟨p0,p1,p2,p3,p4,p5,p6,p7,p8,p9,p10,p11,p12,p13⟩:=hT.wide
 have hr:∀ w':World,Below w.heap.size w w'→w'.rangeAt g 138 (engVals .u64 s R c):=fun w' h=>(hE.below h).range
 have hS:∀ w':World,Below w.heap.size w w'→∀ b o,b<w.heap.size→w'.cell? ⟨b,o,none⟩=w.cell? ⟨b,o,none⟩:=fun w' h b o hb=>h.cell (p:=⟨b,o,none⟩) hb
 have h0:0<w.heap.size:=by have:=hT.size;omega
 have hi':(Tryz.prog.info? 109).map (·.size)=some (engVals .u64 s R c).length:=by rw [engVals_len];kernel_rfl
 obtain ⟨Y,hY⟩:∃ Y,Y=specS rw6 cubeK squareK c bs:=⟨_,rfl⟩
 rw [←hY] at hsum ⊢
 clear hT hTd hE hH hY
 go_enter Tryz.func45,Tryz.ntmps45
 go_wp2_with (go_at_call 84;refine hm.mono ?_;rintro e w' ⟨rfl,hw'⟩;subst hw')
 refine wp_region_held_drew (S:=fun w2=>Below w'.heap.size w' w2) (by kernel_rfl) hd (fun hHeld => ?_)
 refine wpAnyH_take (i:=0) (v := .pointer (some ⟨g,0,none⟩)) rfl (by kernel_rfl) (by kernel_rfl) (by kernel_rfl) (fun _ _ _ h=>h) (Or.inl ⟨by rfl,fun w2 _=>by go_simp⟩) hHeld ?_
 refine wpAnyH_take (i:=1) (v := .pointer (some ⟨g,0,none⟩)) rfl (by kernel_rfl) (by kernel_rfl) (by kernel_rfl) (fun _ _ _ h=>h) (Or.inl ⟨by rfl,fun w2 _=>by go_simp⟩) hHeld ?_
 refine wpAnyH_take (i:=2) (v := .pointer (some ⟨g,138,none⟩)) rfl (by kernel_rfl) (by kernel_rfl) (by kernel_rfl) (fun _ _ _ h=>h) (Or.inl ⟨by rfl,fun w2 _=>by go_simp⟩) hHeld ?_
 refine wpAnyH_take (i:=3) (v := .agg (engVals .u64 s R c).toArray) rfl (by kernel_rfl) (by kernel_rfl) (by kernel_rfl) (fun _ _ _ h=>h) (yieldsIf_load_mid (by rfl) 109 _ rfl g 138 rfl _ _ hr Tryz.underlying109 rfl hi') hHeld ?_
 refine wpAnyH_take (i:=4) (v:=(.agg #[.int .i64 64,.int .i64 80,.int .u64 1,.int .u64 8,.int .u64 7,.int .u64 19,.int .u64 61,.int .u64 6,.int .u64 28,.int .u64 34,.int .u64 39,.int .u64 14,.int .u64 18,.int .u64 41])) rfl (by kernel_rfl) (by kernel_rfl) (by kernel_rfl) (fun _ _ _ h=>h) (Or.inl ⟨by rfl,fun w2 hSw=>by go_simp⟩) hHeld ?_
 refine wpAnyH_ready (rs:=[5]) (by kernel_rfl) (by simp) ?_
 refine AllReadyH.cons rfl (fun K hK => ?_) AllReadyH.nil
 go_simp
 go_at_call 80
 refine hsum.mono ?_
 rintro e w5 ⟨ga,rfl,hga,hrow,hb5⟩
 have hbn:=below_next hd hb5
 go_simp
 refine hK.out _ _ hbn (fun hHeld2 => ?_)
 refine wpAnyH_take (i:=6) (v := .slice (some ⟨ga,0,none⟩) 64 64) rfl (by kernel_rfl) (by kernel_rfl) (by kernel_rfl) (fun _ _ _ h=>h) (Or.inl ⟨by rfl,fun w2 _=>by go_simp⟩) hHeld2 ?_
 refine wpAnyH_done (by kernel_rfl) ?_ _
 go_simp
 go_wp2
 go_ret
 exact ⟨ga,rfl,hga,hrow,hbn⟩
end Go.Proofs.YtdgkmloabificaaGreatDoor
namespace Go.Proofs.YtdgkmloabificaaGreatDoor
open Go.RowKit
def zW:Array Value:=Array.replicate 9 (.int .u64 0)
theorem zW_at (j:Nat) (h:j<9):zW[j]? = some (.int .u64 0):=by simp [zW,h]
theorem zeroW (w:World):Sem.run Tryz.prog (zeroValue 85) w = .ok (.agg zW) w:=by kernel_rfl
theorem ints_size (K:IntKind) (n:Nat) (X:Nat→Nat):(ints K n X).toArray.size=n:=by simp [ints]
theorem infoW:(Tryz.prog.info? 85).map (·.size)=some 9:=by kernel_rfl
theorem infoWL (X:Nat→Nat):(Tryz.prog.info? 85).map (·.size)=some (ints .u64 9 X).length:=by rw [ints_len];exact infoW
theorem infoWA (X:Nat→Nat):(Tryz.prog.info? 85).map (·.size)=some (ints .u64 9 X).toArray.size:=by rw [ints_size];exact infoW
theorem oneW (X:Nat→Nat):(ints .u64 9 X).toArray.all (·.oneCell')=true:=all_oneCell_toArray (ints_one .u64 9 X)
def wideV (X:Nat→Nat):Value := .agg (ints .u64 9 X).toArray
set_option maxRecDepth 20000 in
set_option maxHeartbeats 2000000 in
theorem load_at (xo:Option Addr) (n c:Nat) (bs:Nat→Nat) (hbs:∀ j,bs j<256) (hn:n≤64) (w:World) (hc:∀ W,Below w.heap.size w W→∀ j,j<n→∃ bb ob,xo=some ⟨bb,ob,none⟩∧W.cell? ⟨bb,ob+j,none⟩=some (.int .u8 (bs j))) :
 Calls Tryz.prog 54 #[.slice xo n c] w fun e w'=>e = .returned (wideV (lw (ofB bs n)))∧Below w.heap.size w w':=by
 have hz:=zeroW
 obtain ⟨W,hW⟩:∃ W,W=(w.alloc (.cells zW 85)).alloc (.cells zW 85):=⟨_,rfl⟩
 have HW:=Hid.mk' hW
 have hWs:W.heap.size=w.heap.size+1+1:=by rw [hW];simp
 have hbW:Below w.heap.size w W:=by rw [hW];exact ((Below.refl _ _).alloc (Nat.le_refl _) _).alloc (by simp) _
 have hz0:∀ a,lw (ofB bs 0) a=0:=fun a=>by unfold lw ofB;rw [Nat.zero_div,Nat.zero_mod]
 have hres:RowAt .u64 W w.heap.size 0 9 (fun _=>0):=by rw [hW];exact (RowAt.fresh (fun j hj=>zW_at j hj)).below ((Below.refl _ _).alloc (Nat.le_refl _) _) (by simp)
 have hrow0:RowAt .u64 W (w.heap.size+1) 0 9 (lw (ofB bs 0)):=by
  have:=RowAt.fresh (K := .u64) (w:=w.alloc (.cells zW 85)) (cs:=zW) (t:=85) (n:=9) (X:=lw (ofB bs 0)) (fun j hj=>by rw [hz0];exact zW_at j hj)
  rw [World.size_alloc] at this
  rw [hW];exact this
 unfold wideV
 clear hW hz0
 go_enter Tryz.func54,Tryz.ntmps54
 go_wp2
 rw [←HW.out]
 go_loopw [8] (fun i wr=>∃ k:Nat,k≤n∧i = .int .i64 k∧RowAt .u64 wr (w.heap.size+1) 0 9 (lw (ofB bs k))∧RowAt .u64 wr w.heap.size 0 9 (fun _=>0)∧Below w.heap.size w wr) (fun i _=>n - (intOf i).toNat)
 case atStart=>exact ⟨0,Nat.zero_le _,rfl,hrow0,hres,hbW⟩
 case round =>
  clear hrow0 hres hbW hz
  obtain ⟨k,hk,rfl,hrow,hre,hb⟩:=hrel
  by_cases hlt:k<n
  · obtain ⟨rk,rf⟩:=hrow (k / 8) (by omega)
    rw [Nat.zero_add] at rk rf
    obtain ⟨bb,ob,rfl,hck⟩:=hc wr hb k hlt
    have hor:=or_byte (lw (ofB bs k) (k / 8)) (bs k) k (lw_lt _ _) (hbs k)
    have hbk:=hbs k
    have hki:(k:Int)<n:=by omega
    clear hc
    go_wp2
    go_roundw
    case rel =>
     have h1:=hrow.set (i:=k / 8) (by omega) (v:=((lw (ofB bs k) (k / 8) ||| bs k*2 ^ (k%8*8):Nat):Int)) rfl
     rw [Nat.zero_add] at h1
     refine ⟨k+1,by omega,by go_num,h1.congr (fun j hj => ?_),hre.far (by show w.heap.size+1≠w.heap.size;omega) _,hb.setCell (by show w.heap.size≤w.heap.size+1;omega) _⟩
     rw [word_more bs hbs k j]
     unfold upd
     by_cases e:j=k / 8
     · rw [if_pos e,if_pos e,e]
     · rw [if_neg e,if_neg e]
    case measure=>simp [intOf];omega
  · have hke:k=n:=by omega
    subst hke
    obtain ⟨X,hX⟩:∃ X,X=lw (ofB bs k):=⟨_,rfl⟩
    rw [←hX] at hrow
    have HX:=Hid.mk' hX
    have hki:¬(k:Int)<k:=by omega
    clear hX hc hbs
    have hi1:=infoWL X
    have hi2:=infoWA X
    have ho:=oneW X
    have hth:wr.there w.heap.size 0 (ints .u64 9 X).toArray.size:=by rw [ints_size];exact hre.there
    go_wp2_with (first
     | (refine wpList_load_mid rfl 85 _ rfl (w.heap.size+1) 0 rfl (ints .u64 9 X) _ hrow.range Tryz.underlying85 rfl hi1 ?_)
     | (refine wpList_store_mid rfl 85 _ _ rfl w.heap.size 0 (ints .u64 9 X).toArray rfl rfl hth hi2 ho ?_))
    (try simp only [Exit.inBlock,Exit.then])
    refine bodyPost_ret (results_cell_mid Tryz.results54 _ _ w.heap.size 0 (ints .u64 9 X) _ rfl (World.rangeAt_setCells_same _ _ _ _ (by rw [ints_len];exact hre.there)) Tryz.underlying85 rfl hi1) rfl ⟨by rw [HX.out],?_⟩
    exact below_setCells (Nat.le_refl _) _ _ _ hb
theorem load_any (v:Value) (n:Nat) (bs:Nat→Nat) (hbs:∀ j,bs j<256) (hn:n≤64) (w:World) (hv:BytesIn w v n bs) :
 Calls Tryz.prog 54 #[v] w fun e w'=>e = .returned (wideV (lw (ofB bs n)))∧Below w.heap.size w w':=by
 rcases hv with ⟨xo,rfl,rfl⟩ | ⟨bb,ob,cap,rfl,h1,h2,h3⟩
 · exact load_at xo 0 0 bs hbs hn w (fun _ _ j hj=>absurd hj (Nat.not_lt_zero j))
 · exact load_at _ n cap bs hbs hn w (fun W hW j hj=>⟨bb,ob,rfl,(hW.cell (p:=⟨bb,ob+j,none⟩) h1).trans (h3 j hj)⟩)
set_option maxRecDepth 20000 in
set_option maxHeartbeats 2000000 in
theorem wbytes_any (g:Nat) (N:Nat) (w:World) (hg:g<w.heap.size) (hX:∀ j,j<4→w.cell? ⟨g,j,none⟩=some (.int .u64 (lw N j))) :
 Calls Tryz.prog 98 #[.pointer (some ⟨g,0,none⟩)] w fun e w'=>∃ h,e = .returned (.slice (some ⟨h,0,none⟩) 32 32)∧w.heap.size≤h∧h<w'.heap.size∧RowAt .u8 w' h 0 32 (byt N)∧Below w.heap.size w w':=by
 have hmk:=make_bytes w 32 32 rfl (by decide)
 have hb0:Below w.heap.size w (w.alloc (.cells (zb 32) 5)):=(Below.refl _ _).alloc (Nat.le_refl _) _
 have hrow0:RowAt .u8 (w.alloc (.cells (zb 32) 5)) w.heap.size 0 32 (fun _=>0):=RowAt.fresh (fun j hj=>zb_at 32 j hj)
 go_enter Tryz.func98,Tryz.ntmps98
 go_wp2_with (rw [hmk])
 go_loopw [8] (fun i wr=>∃ k:Nat,k≤32∧i = .int .i64 k∧RowAt .u8 wr w.heap.size 0 32 (fun j=>if j<k then byt N j else 0)∧Below w.heap.size w wr∧w.heap.size<wr.heap.size) (fun i _=>32 - (intOf i).toNat)
 case atStart=>exact ⟨0,Nat.zero_le _,rfl,hrow0.congr (fun j _=>by simp),hb0,by simp⟩
 case round =>
  clear hrow0 hb0 hmk
  obtain ⟨k,hk,rfl,hrow,hb,hsz⟩:=hrel
  by_cases hlt:k<32
  · obtain ⟨rk,rf⟩:=hrow k hlt
    rw [Nat.zero_add] at rk rf
    have hc:=(hb.cell (p:=⟨g,k / 8,none⟩) hg).trans (hX (k / 8) (by omega))
    have rk0:wr.cell? ⟨w.heap.size,k,none⟩=some (.int .u8 0):=by simpa using rk
    clear rk hX
    go_wp2
    go_roundw
    case rel =>
     have h1:=hrow.set (i:=k) hlt (v:=(lw N (k / 8):Int) / 2 ^ (k%8*8)%256) (u:=byt N k) (word_byte_int N k)
     rw [Nat.zero_add] at h1
     refine ⟨k+1,by omega,by go_num,h1.congr (fun j hj => ?_),hb.setCell (Nat.le_refl _) _,by simpa using hsz⟩
     unfold upd
     by_cases e:j=k
     · rw [if_pos e,if_pos (by omega),e]
     · rw [if_neg e]
       show (if j<k then byt N j else 0)=_
       by_cases e2:j<k
       · rw [if_pos e2,if_pos (by omega)]
       · rw [if_neg e2,if_neg (by omega)]
    case measure=>simp [intOf];omega
  · clear hX
    go_wp2
    go_ret
    exact ⟨w.heap.size,rfl,Nat.le_refl _,hsz,hrow.congr (fun j hj=>by rw [if_pos (by omega)]),hb⟩
end Go.Proofs.YtdgkmloabificaaGreatDoor
namespace Go.Proofs.YtdgkmloabificaaGreatDoor
open Go.RowKit
def Ord (w:World):Prop:=∀ j,j<4→w.cell? ⟨2,j,none⟩=some (.int .u64 (Lw j))
theorem Ord.lt {w:World} (h:Ord w):2<w.heap.size:=block_lt_of_cell (h 0 (by decide))
theorem Ord.below {B:Nat} {w w':World} (h:Ord w) (hb:Below B w w') (hB:2<B):Ord w':=fun j hj=>(hb.cell (p:=⟨2,j,none⟩) hB).trans (h j hj)
theorem Ord.still {w w':World} (h:Ord w) (hb:Below w.heap.size w w'):Ord w':=h.below hb h.lt
theorem Ord.out {g o n:Nat} {w w':World} (h:Ord w) (hb:Out g o n w w') (hg:g≠2):Ord w':=fun j hj=>(hb.cell' h.lt (Ne.symm hg)).trans (h j hj)
theorem Ord.range {w:World} (h:Ord w):w.rangeAt 2 0 (ints .u64 4 Lw):=fun j v hv=>by
 have hj:j<4:=by have:=(List.getElem?_eq_some_iff.1 hv).1;rwa [ints_len] at this
 rw [ints_at _ _ _ j hj] at hv
 rw [←hv,Nat.zero_add];exact h j hj
set_option maxRecDepth 20000 in
theorem index4 (X:Nat→Nat) (k:Nat) (hk:k<4) (W:World):(Instr.index 48 (.agg (ints .u64 4 X).toArray) (.int .i64 k)).run Tryz.prog W = .ok (.int .u64 (X k)) W:=by
 have h:k=0∨k=1∨k=2∨k=3:=by omega
 rcases h with rfl | rfl | rfl | rfl <;> rfl
set_option maxRecDepth 20000 in
set_option maxHeartbeats 2000000 in
theorem take_any (g a q:Nat) (X:Nat→Nat) (ha:a≤4) (hq:q<18446744073709551616) (hX:∀ j,X j<18446744073709551616) (hV:q*oL≤pt X a 5) (w:World) (hrow0:RowAt .u64 w g 0 9 X) (hO:Ord w) :
 Calls Tryz.prog 96 #[.pointer (some ⟨g,0,none⟩),.int .i64 a,.int .u64 q] w fun e w'=>e = .returned (.tuple #[])∧∃ Y,RowAt .u64 w' g 0 9 Y∧(∀ j,Y j<18446744073709551616)∧(∀ j,(j<a∨a+5≤j)→Y j=X j)∧pt Y a 5+q*oL=pt X a 5∧Out g 0 9 w w':=by
 have hi4:(Tryz.prog.info? 48).map (·.size)=some (ints .u64 4 Lw).length:=by kernel_rfl
 have hOr:=hO.range
 go_enter Tryz.func96,Tryz.ntmps96
 go_wp2_with (refine wpList_load_mid rfl 48 _ rfl 2 0 rfl (ints .u64 4 Lw) _ hOr Tryz.underlying48 rfl hi4 ?_)
 go_loopw [14,6,7] (fun i c b wr=>∃ (k C D:Nat) (Z:Nat→Nat),k≤4∧i = .int .i64 k∧c = .int .u64 C∧b = .int .u64 D∧C<18446744073709551616∧D≤1∧RowAt .u64 wr g 0 9 Z∧(∀ j,Z j<18446744073709551616)∧(∀ j,(j<a∨a+k≤j)→Z j=X j)∧pt Z a k+q*pt Lw 0 k=pt X a k+18446744073709551616 ^ k*(C+D)∧Out g 0 9 w wr) (fun i _ _ _=>4 - (intOf i).toNat)
 case atStart=>exact ⟨0,0,0,X,by decide,rfl,rfl,rfl,by decide,by decide,hrow0,hX,fun _ _=>rfl,by simp [pt],Out.refl _ _ _ _⟩
 case round =>
  clear hrow0 hOr
  obtain ⟨k,C,D,Z,hk,rfl,rfl,rfl,hC,hD,hrow,hZ,hZX,hinv,hout⟩:=hrel
  by_cases hlt:k<4
  · obtain ⟨rk,rf⟩:=hrow (a+k) (by omega)
    rw [Nat.zero_add] at rk rf
    obtain ⟨h0,l0,hh0,hl0,e0,r0⟩:=mul64_ex q (Lw k) hq (Lw_lt k)
    obtain ⟨l1,k1,hl1,hk1,e1,r1⟩:=add64_ex0 l0 C hl0 hC
    obtain ⟨u,b',hu,hb',e2,r2⟩:=sub64_ex (Z (a+k)) l1 D (hZ _) hl1 hD
    have r0':=r0 wr
    have hstep:=Hid.mk' (take_step hinv e0 e1 e2)
    have hix:=index4 Lw k hlt
    have b1:h0+k1<18446744073709551616:=by omega
    have qw:IntKind.i64.wrap ((a:Int)+k)=(a:Int)+k:=by simp only [IntKind.wrap_i64];omega
    have q1:((a:Int)+k).toNat=a+k:=by omega
    have q2:(0:Int)≤(a:Int)+k∧(a:Int)+k<9:=by omega
    have HZX:=Hid.mk' hZX
    clear e0 e1 e2 r0 hinv hV hZX
    go_wp2_with (first
     | (go_at_call 94;refine r0'.mono ?_;clear r0';rintro e w' ⟨rfl,rfl⟩)
     | rw [r1]
     | rw [hix])
    go_region_with (rw [r2])
    go_wp2
    go_roundw
    case rel =>
     have h1:=(hrow.set (i:=a+k) (by omega) (v:=(u:Int)) (u:=u) rfl).drew
     rw [Nat.zero_add] at h1
     have eZ:Z (a+k)=X (a+k):=HZX.out (a+k) (.inr (Nat.le_refl _))
     refine ⟨k+1,h0+k1,b',upd Z (a+k) u,by omega,by go_num,by go_num,rfl,b1,hb',h1,fun j => ?_,fun j hj => ?_,?_,hout.trans ((Out.setCell w' _ (by omega) (by omega)).trans (Out.drew _))⟩
     · unfold upd;split
       · exact hu
       · exact hZ j
     · unfold upd;rw [if_neg (by omega)];exact HZX.out j (by omega)
     · have hs:=hstep.out
       have e3:pt (upd Z (a+k) u) a k=pt Z a k:=pt_congr k (fun j hj=>by unfold upd;rw [if_neg (by omega)])
       have e4:upd Z (a+k) u (a+k)=u:=by unfold upd;rw [if_pos rfl]
       rw [pt,pt,pt,e3,e4,Nat.pow_succ,←eZ,Nat.zero_add]
       exact hs
    case measure=>simp [intOf];omega
  · have hke:k=4:=by omega
    subst hke
    obtain ⟨rk,rf⟩:=hrow (a+4) (by omega)
    rw [Nat.zero_add] at rk rf
    have HZX:=Hid.mk' hZX
    have hinv':=Hid.mk' hinv
    have hVH:=Hid.mk' hV
    have qw:IntKind.i64.wrap ((a:Int)+4)=(a:Int)+4:=by simp only [IntKind.wrap_i64];omega
    have q1:((a:Int)+4).toNat=a+4:=by omega
    have q2:(0:Int)≤(a:Int)+4∧(a:Int)+4<9:=by omega
    clear hZX hinv hV
    have hCD:C+D≤Z (a+4):=by
     have h1:=hinv'.out
     have h2:=hVH.out
     have h3:=pt_lt hZ a 4
     rw [pt,←HZX.out (a+4) (.inr (Nat.le_refl _))] at h2
     rw [pt_L] at h1
     simp only [Nat.reducePow] at h1 h2 h3
     generalize q*oL=T at h1 h2
     omega
    have hZa:=hZ (a+4)
    have hfin:=(hrow.set (i:=a+4) (by omega) (v:=(Z (a+4):Int) - ((C:Int)+D)) (u:=Z (a+4) - (C+D)) (by omega)).drew
    rw [Nat.zero_add] at hfin
    have hfin':=Hid.mk' hfin
    clear hfin
    go_wp2
    go_region
    go_wp2
    go_end0
    refine ⟨rfl,upd Z (a+4) (Z (a+4) - (C+D)),hfin'.out,fun j => ?_,fun j hj => ?_,?_,hout.trans ((Out.setCell wr _ (by omega) (by omega)).trans (Out.drew _))⟩
    · unfold upd;split
      · omega
      · exact hZ j
    · unfold upd;rw [if_neg (by omega)];exact HZX.out j (by omega)
    · have h1:=hinv'.out
      have e3:pt (upd Z (a+4) (Z (a+4) - (C+D))) a 4=pt Z a 4:=pt_congr 4 (fun j hj=>by unfold upd;rw [if_neg (by omega)])
      have e4:upd Z (a+4) (Z (a+4) - (C+D)) (a+4)=Z (a+4) - (C+D):=by unfold upd;rw [if_pos rfl]
      rw [pt5 X,pt5,e3,e4,←HZX.out (a+4) (.inr (Nat.le_refl _))]
      rw [pt_L] at h1
      simp only [Nat.reducePow] at h1 ⊢
      generalize q*oL=T at h1 ⊢
      omega
end Go.Proofs.YtdgkmloabificaaGreatDoor
namespace Go.Proofs.YtdgkmloabificaaGreatDoor
open Go.RowKit
def guessN (X:Nat→Nat) (a:Nat):Nat:=X (a+4)*16+X (a+3) / 1152921504606846976 - 1
theorem guess_bits (T U:Nat) (hT:T≤1152921504606846976) (hU:U<18446744073709551616) (h0:¬(T=0∧U / 1152921504606846976=0)) (h1:T*16+U / 1152921504606846976≤18446744073709551616) :
 IntKind.u64.wrap (bits .or .u64 (IntKind.u64.wrap ((T:Int)*16)) ((U:Int) / 1152921504606846976) - 1)=((T*16+U / 1152921504606846976 - 1:Nat):Int):=by
 have e2:(U:Int) / 1152921504606846976=((U / 1152921504606846976:Nat):Int):=by omega
 have hl:U / 1152921504606846976<16:=by omega
 rw [e2]
 generalize U / 1152921504606846976=l at *
 by_cases hT2:T=1152921504606846976
 · have hl0:l=0:=by omega
   subst hT2 hl0
   decide
 · have e1:IntKind.u64.wrap ((T:Int)*16)=((T*16:Nat):Int):=by rw [IntKind.wrap_u64];omega
   rw [e1,bits_or_u64_nat _ _ (by omega) (by omega)]
   have e3:T*16 ||| l=T*16+l:=by
    have:=Nat.two_pow_add_eq_or_of_lt (i:=4) (b:=l) (by omega) T
    rw [Nat.mul_comm T 16]
    exact this.symm
   rw [e3,IntKind.wrap_u64]
   omega
set_option maxRecDepth 20000 in
set_option maxHeartbeats 2000000 in
theorem guess_any (g a:Nat) (X:Nat→Nat) (ha:a≤4) (hX:∀ j,X j<18446744073709551616) (hT:X (a+4)≤1152921504606846976) (hg':X (a+4)*16+X (a+3) / 1152921504606846976≤18446744073709551616) (w:World) (hrow:RowAt .u64 w g 0 9 X) :
 Calls Tryz.prog 97 #[.pointer (some ⟨g,0,none⟩),.int .i64 a] w fun e w'=>e = .returned (.int .u64 (guessN X a))∧Below w.heap.size w w':=by
 obtain ⟨r4,-⟩:=hrow (a+4) (by omega)
 obtain ⟨r3,-⟩:=hrow (a+3) (by omega)
 rw [Nat.zero_add] at r4 r3
 have qw:IntKind.i64.wrap ((a:Int)+4)=(a:Int)+4:=by simp only [IntKind.wrap_i64];omega
 have q1:((a:Int)+4).toNat=a+4:=by omega
 have q2:(0:Int)≤(a:Int)+4∧(a:Int)+4<9:=by omega
 have pw:IntKind.i64.wrap ((a:Int)+3)=(a:Int)+3:=by simp only [IntKind.wrap_i64];omega
 have p1:((a:Int)+3).toNat=a+3:=by omega
 have p2:(0:Int)≤(a:Int)+3∧(a:Int)+3<9:=by omega
 have hU:=hX (a+3)
 have key:=fun h0=>guess_bits (X (a+4)) (X (a+3)) hT hU h0 hg'
 unfold guessN
 generalize X (a+4)=T at *
 generalize X (a+3)=U at *
 clear hX hrow
 by_cases hc:T=0
 · subst hc
   by_cases hd:U / 1152921504606846976=0
   · have hd':(U:Int) / 1152921504606846976=0:=by omega
     clear key
     have hret:Ending.returned (.int .u64 0)=Ending.returned (.int .u64 ((0*16+U / 1152921504606846976 - 1:Nat):Int)):=by rw [hd];rfl
     have hret':=Hid.mk' hret
     clear hret hd
     go_enter Tryz.func97,Tryz.ntmps97
     go_wp2
     go_region
     go_wp2
     go_ret
     exact ⟨hret'.out,(Below.refl _ _).drew⟩
   · have hd':¬(U:Int) / 1152921504606846976=0:=by omega
     have key0:=key (fun h=>hd h.2)
     rw [show IntKind.u64.wrap (((0:Nat):Int)*16)=0 by decide] at key0
     have key':=Hid.mk' key0
     clear key key0 hd
     go_enter Tryz.func97,Tryz.ntmps97
     go_wp2
     go_region
     go_wp2
     go_ret
     exact ⟨retInt key'.out,(Below.refl _ _).drew⟩
 · have hc':¬(T:Int)=0:=by omega
   have key':=Hid.mk' (key (fun h=>hc h.1))
   clear key hc
   go_enter Tryz.func97,Tryz.ntmps97
   go_wp2
   go_region
   go_wp2
   go_ret
   exact ⟨retInt key'.out,(Below.refl _ _).drew⟩
end Go.Proofs.YtdgkmloabificaaGreatDoor
namespace Go.Proofs.YtdgkmloabificaaGreatDoor
theorem pt5' (X:Nat→Nat) (a:Nat):pt X a 5=pt X a 3+X (a+3)*6277101735386680763835789423207666416102355444464034512896+X (a+4)*115792089237316195423570985008687907853269984665640564039457584007913129639936:=rfl
theorem guess_good (X:Nat→Nat) (a:Nat) (hX:∀ j,X j<18446744073709551616) (hV:pt X a 5<18446744073709551616*oL) :
 X (a+4)≤1152921504606846976∧X (a+4)*16+X (a+3) / 1152921504606846976≤18446744073709551616∧guessN X a<18446744073709551616∧guessN X a*oL≤pt X a 5∧pt X a 5<guessN X a*oL+2*oL:=by
 have h3:=pt_lt hX a 3
 have hx3:=hX (a+3)
 have hx4:=hX (a+4)
 rw [pt5'] at hV ⊢
 unfold guessN oL at *
 simp only [Nat.reducePow] at h3
 generalize pt X a 3=P at *
 generalize X (a+3)=U at *
 generalize X (a+4)=T at *
 clear hX
 refine ⟨?_,?_,?_,?_,?_⟩ <;> omega
theorem pt_take {X Y:Nat→Nat} {a q:Nat} (ha:a≤4) (hout:∀ j,(j<a∨a+5≤j)→Y j=X j) (h:pt Y a 5+q*oL=pt X a 5):pt Y 0 9%oL=pt X 0 9%oL:=by
 have key:∀ Z,pt Z 0 9=pt Z 0 a+18446744073709551616 ^ a*(pt Z a 5+18446744073709551616 ^ 5*pt Z (a+5) (4 - a)):=fun Z=>by
  have h1:=pt_split Z 0 a (5+(4 - a))
  rw [show a+(5+(4 - a))=9 by omega,Nat.zero_add,pt_split Z a 5 (4 - a)] at h1
  exact h1
 have e1:pt Y 0 a=pt X 0 a:=pt_congr a (fun j hj=>hout _ (by omega))
 have e2:pt Y (a+5) (4 - a)=pt X (a+5) (4 - a):=pt_congr _ (fun j hj=>hout _ (by omega))
 rw [key Y,key X,e1,e2,←h]
 have e3:pt X 0 a+18446744073709551616 ^ a*(pt Y a 5+q*oL+18446744073709551616 ^ 5*pt X (a+5) (4 - a))=(pt X 0 a+18446744073709551616 ^ a*(pt Y a 5+18446744073709551616 ^ 5*pt X (a+5) (4 - a)))+oL*(18446744073709551616 ^ a*q):=by
  rw [Nat.mul_add,Nat.mul_add,Nat.mul_add,Nat.mul_comm q oL,←Nat.mul_assoc,←Nat.mul_assoc oL,Nat.mul_comm oL,Nat.mul_assoc (18446744073709551616 ^ a) oL q]
  omega
 rw [e3,Nat.add_mul_mod_self_left]
theorem pt_le {X:Nat→Nat} {a:Nat} (hX:∀ j,X j<18446744073709551616) {m:Nat} (hm:m<4) (heq:∀ k,m<k→k<4→X (a+k)=Lw k):(X (a+m)<Lw m→pt X a 4<oL)∧(Lw m<X (a+m)→oL≤pt X a 4):=by
 have e:∀ Z:Nat→Nat,pt Z a 4=pt Z a m+Z (a+m)*18446744073709551616 ^ m+18446744073709551616 ^ (m+1)*pt Z (a+(m+1)) (3 - m):=fun Z=>by
  have h1:=pt_split Z a (m+1) (3 - m)
  rw [show m+1+(3 - m)=4 by omega,pt] at h1
  exact h1
 have e':oL=pt Lw 0 m+Lw m*18446744073709551616 ^ m+18446744073709551616 ^ (m+1)*pt Lw (m+1) (3 - m):=by
  have h1:=pt_split Lw 0 (m+1) (3 - m)
  rw [show m+1+(3 - m)=4 by omega,pt_L,pt,Nat.zero_add,Nat.zero_add] at h1
  exact h1
 have e2:∀ n,n≤3 - m→pt X (a+(m+1)) n=pt Lw (m+1) n:=fun n=>by
  induction n with
  | zero=>intro _;rfl
  | succ n ih =>
   intro hn
   rw [pt,pt,ih (by omega)]
   have:=heq (m+1+n) (by omega) (by omega)
   rw [show a+(m+1)+n=a+(m+1+n) by omega,this]
 have l1:=pt_lt hX a m
 have l2:=pt_lt Lw_lt 0 m
 rw [e X,e',e2 _ (Nat.le_refl _)]
 generalize 18446744073709551616 ^ (m+1)*pt Lw (m+1) (3 - m)=H
 generalize 18446744073709551616 ^ m=P at *
 constructor
 · intro h
   have:=Nat.mul_le_mul_right P (show X (a+m)+1≤Lw m by omega)
   rw [Nat.add_mul,Nat.one_mul] at this
   omega
 · intro h
   have:=Nat.mul_le_mul_right P (show Lw m+1≤X (a+m) by omega)
   rw [Nat.add_mul,Nat.one_mul] at this
   omega
theorem pt_eq {X:Nat→Nat} {a:Nat} (heq:∀ k,k<4→X (a+k)=Lw k):pt X a 4=oL:=by
 rw [←pt_L]
 have:∀ n,n≤4→pt X a n=pt Lw 0 n:=fun n=>by
  induction n with
  | zero=>intro _;rfl
  | succ n ih=>intro hn;rw [pt,pt,ih (by omega),heq n (by omega),Nat.zero_add]
 exact this 4 (Nat.le_refl _)
theorem top_zero {X:Nat→Nat} {a:Nat} (h:pt X a 5<2*oL):X (a+4)=0∧pt X a 4=pt X a 5:=by
 rw [pt5] at *
 unfold oL at h
 simp only [Nat.reducePow] at *
 omega
theorem low_lt {X:Nat→Nat} {a:Nat} (hX:∀ j,X j<18446744073709551616) (h:pt X (a+1) 4<oL):pt X a 5<18446744073709551616*oL:=by
 rw [pt_head]
 have:=hX a
 unfold oL at *
 omega
theorem pt_tail {X:Nat→Nat} (m:Nat):∀ k,(∀ j,m≤j→j<m+k→X j=0)→pt X 0 (m+k)=pt X 0 m
 | 0,_=>rfl
 | k+1,h=>by rw [←Nat.add_assoc,pt,pt_tail m k (fun j h1 h2=>h j h1 (by omega)),Nat.zero_add,h (m+k) (by omega) (by omega),Nat.zero_mul,Nat.add_zero]
theorem pt_tail9 {X:Nat→Nat} (h:∀ j,4≤j→j<9→X j=0):pt X 0 9=pt X 0 4:=pt_tail 4 5 h
theorem pt_fin {X:Nat→Nat} {N:Nat} (h:∀ j,4≤j→j<9→X j=0) (hl:pt X 0 4<oL) (hm:pt X 0 9%oL=N):N=pt X 0 9:=by
 have e:=pt_tail9 h
 rw [e] at hm ⊢
 rw [←hm]
 exact Nat.mod_eq_of_lt hl
end Go.Proofs.YtdgkmloabificaaGreatDoor
namespace Go.Proofs.YtdgkmloabificaaGreatDoor
open Go.RowKit
theorem st_take {X Y:Nat→Nat} {a q N:Nat} (ha:a≤4) (hz:∀ j,a+1+4≤j→j<9→X j=0) (hm:pt X 0 9%oL=N) (hout:∀ j,(j<a∨a+5≤j)→Y j=X j) (h:pt Y a 5+q*oL=pt X a 5) :
 (∀ j,a+1+4≤j→j<9→Y j=0)∧pt Y 0 9%oL=N :=
 ⟨fun j h1 h2=>(hout j (by omega)).trans (hz j h1 h2),(pt_take ha hout h).trans hm⟩
theorem st_next {Y:Nat→Nat} {a:Nat} (hz:∀ j,a+1+4≤j→j<9→Y j=0) (h:pt Y a 5<oL):(∀ j,a+4≤j→j<9→Y j=0)∧pt Y a 4<oL:=by
 obtain ⟨h1,h2⟩:=top_zero (X:=Y) (a:=a) (by omega)
 refine ⟨fun j hj h9 => ?_,by omega⟩
 by_cases e:j=a+4
 · rw [e];exact h1
 · exact hz j (by omega) h9
set_option maxRecDepth 20000 in
set_option maxHeartbeats 4000000 in
theorem rest_any (g:Nat) (X0:Nat→Nat) (hX0:∀ j,X0 j<18446744073709551616) (h8:X0 8=0) (w:World) (hrow0:RowAt .u64 w g 0 9 X0) (hO0:Ord w) (hg:g≠2) :
 Calls Tryz.prog 56 #[.pointer (some ⟨g,0,none⟩)] w fun e w'=>∃ h,e = .returned (.slice (some ⟨h,0,none⟩) 32 32)∧w.heap.size≤h∧h<w'.heap.size∧RowAt .u8 w' h 0 32 (byt (pt X0 0 9%oL))∧Out g 0 9 w w':=by
 have hgl:g<w.heap.size:=block_lt_of_cell (hrow0 0 (by decide)).1
 have hst:pt X0 5 4<oL:=by
  have h1:=pt_lt hX0 5 3
  have h2:pt X0 5 4=pt X0 5 3+X0 8*18446744073709551616 ^ 3:=rfl
  rw [h8] at h2
  simp only [Nat.reducePow] at h1 h2
  unfold oL
  omega
 obtain ⟨N,hN⟩:∃ N,N=pt X0 0 9%oL:=⟨_,rfl⟩
 rw [←hN]
 have hNl:N<oL:=by rw [hN];exact Nat.mod_lt _ (by decide)
 go_enter Tryz.func56,Tryz.ntmps56
 go_wp2
 go_step3
 go_wp2
 go_step3
 go_wp2
 go_loopw [3] (fun i wr=>∃ (n:Nat) (X:Nat→Nat),n≤5∧i = .int .i64 ((n:Int) - 1)∧RowAt .u64 wr g 0 9 X∧(∀ j,X j<18446744073709551616)∧(∀ j,n+4≤j→j<9→X j=0)∧pt X n 4<oL∧pt X 0 9%oL=N∧Ord wr∧Out g 0 9 w wr) (fun i _=>(intOf i+1).toNat)
 case atStart=>exact ⟨5,X0,by decide,rfl,hrow0,hX0,fun j h1 h2=>absurd h2 (by omega),hst,hN.symm,hO0,Out.refl _ _ _ _⟩
 case round =>
  clear hrow0 hX0 h8 hO0 hst hN
  obtain ⟨n,X,hn,rfl,hrow,hX,hz,hlt,hmod,hO,hout⟩:=hrel
  by_cases h0:n=0
  · subst h0
    have hgw:g<wr.heap.size:=by have:=hout.size;omega
    have eN:N=pt X 0 9:=pt_fin (fun j h1 h2=>hz j (by omega) h2) hlt hmod
    have cb:=wbytes_any g N wr hgw (fun j hj=>by
     have:=(hrow j (by omega)).1
     rw [Nat.zero_add] at this
     rw [this,eN,lw_pt hX 9 j (by omega)])
    clear hz hmod eN hlt hX hrow hNl hO
    go_wp2_with (go_at_call 98;refine cb.mono ?_;clear cb;rintro e w1 ⟨h,rfl,hh1,hh2,hr1,hb1⟩)
    rw [Exit.noGoto_ret]
    go_ret
    exact ⟨h,rfl,by have:=hout.size;omega,hh2,hr1,hout.trans (Out.of_below hb1 hgw)⟩
  · obtain ⟨a,rfl⟩:∃ a,n=a+1:=⟨n - 1,by omega⟩
    have ea:(((a+1:Nat):Int) - 1)=(a:Int):=by omega
    rw [ea]
    have hV:=low_lt hX hlt
    obtain ⟨g1,g2,g3,g4,g5⟩:=guess_good X a hX hV
    have cg:=guess_any g a X (by omega) hX g1 g2 wr hrow
    have ct:=fun W (hr:RowAt .u64 W g 0 9 X) hOW=>take_any g a (guessN X a) X (by omega) g3 hX g4 W hr hOW
    generalize guessN X a=q at *
    have hai:(a:Int)≥0:=by omega
    have HZ:=Hid.mk' hz
    have HM:=Hid.mk' hmod
    clear hz hmod
    go_wp2_with (first
     | (go_at_call 97;refine cg.mono ?_;clear cg;rintro e w1 ⟨rfl,hb1⟩;(have hr1:=hrow.below hb1 (by have:=hout.size;omega));(have hO1:=hO.still hb1);(have ho1:=hout.trans (Out.of_below hb1 (by have:=hout.size;omega)));replace ct:=ct w1 hr1 hO1)
     | (go_at_call 96;refine ct.mono ?_;clear ct;rintro e w2 ⟨rfl,Y,hr2,hY,hYX,hpt,ho2⟩;(have hO2:=hO1.out ho2 hg);(have ho:=ho1.trans ho2)))
    have hP2:pt Y a 5<2*oL:=by omega
    obtain ⟨hY4,hP4⟩:=top_zero hP2
    have SY:=Hid.mk' (st_take (by omega) HZ.out HM.out hYX hpt)
    have ct2:=fun W (hr:RowAt .u64 W g 0 9 Y) hOW (h:oL≤pt Y a 4)=>take_any g a 1 Y (by omega) (by decide) hY (by rw [Nat.one_mul,←hP4];exact h) W hr hOW
    have hP2':=Hid.mk' hP2
    have hP4':=Hid.mk' hP4
    clear hYX hpt hV hlt g1 g2 g3 g4 g5 hX hrow hO hout hr1 hO1 ho1 hb1 ho2 HZ HM hP2 hP4 hY4
    go_loopw [4] (fun i wt=>∃ m:Nat,m≤4∧i = .int .i64 ((m:Int) - 1)∧(∀ k,m≤k→k<4→Y (a+k)=Lw k)∧RowAt .u64 wt g 0 9 Y∧Ord wt∧Out g 0 9 w wt) (fun i _=>(intOf i+1).toNat)
    case atStart=>exact ⟨4,by decide,rfl,fun k h1 h2=>absurd h2 (by omega),hr2,hO2,ho⟩
    case round =>
     clear hr2 hO2 ho
     obtain ⟨m,hm,rfl,heq,hr,hO,ho⟩:=hrel
     have HE:=Hid.mk' heq
     clear heq
     by_cases hm0:m=0
     · subst hm0
       have hge:oL≤pt Y a 4:=Nat.le_of_eq (pt_eq (fun k hk=>HE.out k (Nat.zero_le _) hk)).symm
       replace ct2:=ct2 wr hr hO hge
       clear hge
       go_wp2_with (go_at_call 96;refine ct2.mono ?_;clear ct2;rintro e w3 ⟨rfl,Z,hr3,hZ,hZY,hptZ,ho3⟩;(have hO3:=hO.out ho3 hg);(have hoZ:=ho.trans ho3);(have HZY:=Hid.mk' hZY);(have HPZ:=Hid.mk' hptZ);clear hZY hptZ ho3)
       go_roundw
       case rel =>
        obtain ⟨s1,s2⟩:=st_take (by omega) SY.out.1 SY.out.2 HZY.out HPZ.out
        have hl:pt Z a 5<oL:=by have:=HPZ.out;have:=hP2'.out;omega
        obtain ⟨z1,z2⟩:=st_next s1 hl
        exact ⟨a,Z,by omega,by go_num,hr3,hZ,z1,z2,s2,hO3,hoZ⟩
       case measure=>simp [intOf]
     · obtain ⟨i,rfl⟩:∃ i,m=i+1:=⟨m - 1,by omega⟩
       have ei:(((i+1:Nat):Int) - 1)=(i:Int):=by omega
       rw [ei]
       obtain ⟨rg,-⟩:=hr (a+i) (by omega)
       rw [Nat.zero_add] at rg
       have ro:=hO i (by omega)
       have qw:IntKind.i64.wrap ((a:Int)+i)=(a:Int)+i:=by simp only [IntKind.wrap_i64];omega
       have q1:((a:Int)+i).toNat=a+i:=by omega
       have q2:(0:Int)≤(a:Int)+i∧(a:Int)+i<9:=by omega
       have q3:(0:Int)≤(i:Int)∧(i:Int)<4:=by omega
       obtain ⟨c1,c2⟩:=pt_le (m:=i) hY (by omega) (fun k h1 h2=>HE.out k (by omega) h2)
       rcases Nat.lt_trichotomy (Y (a+i)) (Lw i) with hc | hc | hc
       · have hl:=Hid.mk' (c1 hc)
         have hci:(Y (a+i):Int)<(Lw i:Int):=by omega
         clear c1 c2 hc ct2
         go_wp2
         go_region
         go_wp2
         obtain ⟨z1,z2⟩:=st_next SY.out.1 (by rw [←hP4'.out];exact hl.out)
         exact ⟨⟨a,Y,by omega,rfl,hr.drew,hY,z1,z2,SY.out.2,fun j hj=>hO j hj,ho.trans (Out.drew _)⟩,by simp [intOf]⟩
       · have hci:¬(Y (a+i):Int)<(Lw i:Int):=by omega
         have hci2:¬(Lw i:Int)<(Y (a+i):Int):=by omega
         have hc':=Hid.mk' hc
         clear c1 c2 hc ct2
         go_wp2
         go_region
         go_wp2
         go_region
         go_wp2
         go_roundw
         case rel =>
          refine ⟨i,by omega,by go_num,fun k h1 h2 => ?_,hr.drew.drew,fun j hj=>hO j hj,(ho.trans (Out.drew _)).trans (Out.drew _)⟩
          by_cases e:k=i
          · rw [e];exact hc'.out
          · exact HE.out k (by omega) h2
         case measure=>simp [intOf]
       · have hci:¬(Y (a+i):Int)<(Lw i:Int):=by omega
         have hci2:(Lw i:Int)<(Y (a+i):Int):=by omega
         replace ct2:=ct2 wr.drew.drew hr.drew.drew (fun j hj=>hO j hj) (c2 hc)
         clear c1 c2 hc
         have hO':Ord wr.drew.drew:=fun j hj=>hO j hj
         have ho':Out g 0 9 w wr.drew.drew:=(ho.trans (Out.drew _)).trans (Out.drew _)
         go_wp2
         go_region
         go_wp2
         go_region
         go_wp2_with (go_at_call 96;refine ct2.mono ?_;clear ct2;rintro e w3 ⟨rfl,Z,hr3,hZ,hZY,hptZ,ho3⟩;(have hO3:=hO'.out ho3 hg);(have hoZ:=ho'.trans ho3);(have HZY:=Hid.mk' hZY);(have HPZ:=Hid.mk' hptZ);clear hZY hptZ ho3)
         go_roundw
         case rel =>
          obtain ⟨s1,s2⟩:=st_take (by omega) SY.out.1 SY.out.2 HZY.out HPZ.out
          have hl:pt Z a 5<oL:=by have:=HPZ.out;have:=hP2'.out;omega
          obtain ⟨z1,z2⟩:=st_next s1 hl
          exact ⟨a,Z,by omega,by go_num,hr3,hZ,z1,z2,s2,hO3,hoZ⟩
         case measure=>simp [intOf]
end Go.Proofs.YtdgkmloabificaaGreatDoor
namespace Go.Proofs.YtdgkmloabificaaGreatDoor
open Go.RowKit
set_option maxRecDepth 20000 in
set_option maxHeartbeats 4000000 in
theorem addp_any (g ga gb:Nat) (X A B:Nat→Nat) (hga:g≠ga) (hgb:g≠gb) (hX:∀ j,X j<18446744073709551616) (hA:∀ j,A j<18446744073709551616) (hB:∀ j,B j<18446744073709551616) (hz:∀ j,4≤j→j<9→X j=0) (w:World) (hrow0:RowAt .u64 w g 0 9 X) (hra0:RowAt .u64 w ga 0 9 A) (hrb0:RowAt .u64 w gb 0 9 B) :
 Calls Tryz.prog 55 #[.pointer (some ⟨g,0,none⟩),.pointer (some ⟨ga,0,none⟩),.pointer (some ⟨gb,0,none⟩)] w fun e w'=>e = .returned (.tuple #[])∧∃ Y,RowAt .u64 w' g 0 9 Y∧(∀ j,Y j<18446744073709551616)∧Y 8=0∧pt Y 0 9=pt X 0 9+pt A 0 4*pt B 0 4∧Out g 0 9 w w':=by
 have hra:∀ W,Out g 0 9 w W→RowAt .u64 W ga 0 9 A:=fun W h=>h.row hra0 (Ne.symm hga)
 have hrb:∀ W,Out g 0 9 w W→RowAt .u64 W gb 0 9 B:=fun W h=>h.row hrb0 (Ne.symm hgb)
 clear hra0 hrb0
 go_enter Tryz.func55,Tryz.ntmps55
 go_wp2
 go_loopw [18] (fun i wr=>∃ (k:Nat) (Z:Nat→Nat),k≤4∧i = .int .i64 k∧RowAt .u64 wr g 0 9 Z∧(∀ j,Z j<18446744073709551616)∧(∀ j,k+4≤j→j<9→Z j=0)∧pt Z 0 9=pt X 0 9+pt A 0 k*pt B 0 4∧Out g 0 9 w wr) (fun i _=>4 - (intOf i).toNat)
 case atStart=>exact ⟨0,X,by decide,rfl,hrow0,hX,fun j h1 h2=>hz j (by omega) h2,by rw [pt,Nat.zero_mul,Nat.add_zero],Out.refl _ _ _ _⟩
 case round =>
  clear hrow0 hX hz
  obtain ⟨k,Z,hk,rfl,hrow,hZ,hz,hval,hout⟩:=hrel
  by_cases hlt:k<4
  · obtain ⟨ra,-⟩:=hra wr hout k (by omega)
    rw [Nat.zero_add] at ra
    have hz':=Hid.mk' hz
    have hval':=Hid.mk' hval
    have hki:(k:Int)<4:=by omega
    clear hz hval
    go_wp2
    go_loopw [27,8] (fun i c wt=>∃ (m C:Nat) (Y:Nat→Nat),m≤4∧i = .int .i64 m∧c = .int .u64 C∧C<18446744073709551616∧RowAt .u64 wt g 0 9 Y∧(∀ j,Y j<18446744073709551616)∧(∀ j,k+4≤j→j<9→Y j=0)∧pt Y 0 9+C*18446744073709551616 ^ (k+m)=pt Z 0 9+A k*pt B 0 m*18446744073709551616 ^ k∧Out g 0 9 w wt) (fun i _ _=>4 - (intOf i).toNat)
    case atStart=>exact ⟨0,0,Z,by decide,rfl,rfl,by decide,hrow,hZ,hz'.out,by rw [pt,Nat.mul_zero,Nat.zero_mul,Nat.zero_mul],hout⟩
    case round =>
     clear hrow hout ra
     obtain ⟨m,C,Y,hm,rfl,rfl,hC,hrow,hY,hzY,hinv,hout⟩:=hrel
     by_cases hmt:m<4
     · obtain ⟨rb,-⟩:=hrb wr hout m (by omega)
       obtain ⟨rg,fg⟩:=hrow (k+m) (by omega)
       rw [Nat.zero_add] at rb rg fg
       obtain ⟨h0,l0,hh0,hl0,e0,r0⟩:=mul64_ex (A k) (B m) (hA k) (hB m)
       obtain ⟨l1,k1,hl1,hk1,e1,r1⟩:=add64_ex0 l0 (Y (k+m)) hl0 (hY _)
       obtain ⟨l2,k2,hl2,hk2,e2,r2⟩:=add64_ex0 l1 C hl1 hC
       have hpu:=pt_upd Y (k+m) l2 0 9 (by omega)
       rw [Nat.zero_add] at hpu
       have hstep:=Hid.mk' (add_step (Nat.pow_add 18446744073709551616 k m) hinv e0 e1 e2 hpu)
       have hxy:A k*B m≤18446744073709551615*18446744073709551615:=Nat.mul_le_mul (by have:=hA k;omega) (by have:=hB m;omega)
       have hYk:=hY (k+m)
       have b1:h0+k1<18446744073709551616:=by omega
       have b2:h0+k1+k2<18446744073709551616:=by
        generalize A k*B m=T at *
        omega
       have hzY':=Hid.mk' hzY
       have qw:IntKind.i64.wrap ((k:Int)+m)=(k:Int)+m:=by simp only [IntKind.wrap_i64];omega
       have q1:((k:Int)+m).toNat=k+m:=by omega
       have q2:(0:Int)≤(k:Int)+m∧(k:Int)+m<9:=by omega
       have hmi:(m:Int)<4:=by omega
       have r0':=r0 wr
       clear hra hrb hinv e0 e1 e2 hpu hxy hzY r0
       go_wp2_with (first
        | (go_at_call 94;refine r0'.mono ?_;clear r0';rintro e w' ⟨rfl,hw⟩;subst hw)
        | rw [r1])
       go_region_with (rw [r2])
       go_wp2
       have h1:=(hrow.set (i:=k+m) (by omega) (v:=(l2:Int)) (u:=l2) rfl).drew
       rw [Nat.zero_add] at h1
       refine ⟨⟨m+1,h0+k1+k2,upd Y (k+m) l2,by omega,by go_num,by go_num,b2,h1,fun j => ?_,fun j h1 h2 => ?_,?_,hout.trans ((Out.setCell w' _ (by omega) (by omega)).trans (Out.drew _))⟩,by simp [intOf];omega⟩
       · unfold upd;split
         · exact hl2
         · exact hY j
       · unfold upd;rw [if_neg (by omega)];exact hzY'.out j h1 h2
       · rw [←Nat.add_assoc,Nat.pow_succ,pt_succ0 B m]
         exact hstep.out
     · have hme:m=4:=by omega
       subst hme
       obtain ⟨rg,fg⟩:=hrow (k+4) (by omega)
       rw [Nat.zero_add] at rg fg
       have hzk:=hzY (k+4) (by omega) (by omega)
       have hpu:=pt_upd Y (k+4) C 0 9 (by omega)
       rw [Nat.zero_add,hzk,Nat.zero_mul,Nat.add_zero,hinv,hval'.out] at hpu
       have hpu':pt (upd Y (k+4) C) 0 9=pt X 0 9+pt A 0 (k+1)*pt B 0 4:=by
        rw [hpu,pt_succ0 A k,Nat.add_mul,Nat.mul_right_comm,Nat.add_assoc]
       have HP:=Hid.mk' hpu'
       have hzY':=Hid.mk' hzY
       have qw:IntKind.i64.wrap ((k:Int)+4)=(k:Int)+4:=by simp only [IntKind.wrap_i64];omega
       have q1:((k:Int)+4).toNat=k+4:=by omega
       have q2:(0:Int)≤(k:Int)+4∧(k:Int)+4<9:=by omega
       clear hpu hpu' hinv hzY hra hrb hzk
       go_wp2
       go_roundw
       case rel =>
        have h1:=hrow.set (i:=k+4) (by omega) (v:=(C:Int)) (u:=C) rfl
        rw [Nat.zero_add] at h1
        refine ⟨k+1,upd Y (k+4) C,by omega,by go_num,h1,fun j => ?_,fun j h1 h2 => ?_,HP.out,hout.trans (Out.setCell wr _ (by omega) (by omega))⟩
        · unfold upd;split
          · exact hC
          · exact hY j
        · unfold upd;rw [if_neg (by omega)];exact hzY'.out j (by omega) h2
       case measure=>simp [intOf];omega
  · have hke:k=4:=by omega
    subst hke
    have hz':=Hid.mk' hz
    have hval':=Hid.mk' hval
    clear hz hval hra hrb
    go_wp2
    go_end0
    exact ⟨rfl,Z,hrow,hZ,hz'.out 8 (by decide) (by decide),hval'.out,hout⟩
end Go.Proofs.YtdgkmloabificaaGreatDoor
namespace Go.Proofs.YtdgkmloabificaaGreatDoor
open Go.RowKit
theorem lw_zero {N k j:Nat} (h:N<18446744073709551616 ^ k) (hj:k≤j):lw N j=0:=by
 unfold lw
 rw [Nat.div_eq_of_lt (Nat.lt_of_lt_of_le h (Nat.pow_le_pow_right (by decide) hj)),Nat.zero_mod]
theorem pt_lwN {N k:Nat} (h:N<18446744073709551616 ^ k):pt (lw N) 0 k=N:=by rw [pt_lw,Nat.mod_eq_of_lt h]
theorem ofB_64 {bs:Nat→Nat} (hbs:∀ j,bs j<256) {n:Nat} (hn:n≤64):ofB bs n<18446744073709551616 ^ 8:=by
 refine Nat.lt_of_lt_of_le (ofB_lt bs hbs n) ?_
 rw [show (18446744073709551616:Nat) ^ 8=256 ^ 64 by decide]
 exact Nat.pow_le_pow_right (by decide) hn
theorem ofB_32 {bs:Nat→Nat} (hbs:∀ j,bs j<256):ofB bs 32<18446744073709551616 ^ 4:=by
 have:=ofB_lt bs hbs 32
 rw [show (18446744073709551616:Nat) ^ 4=256 ^ 32 by decide]
 exact this
def laidW (w:World) (X:Nat→Nat):World:=(w.alloc (.cells zW 85)).setCells w.heap.size 0 (ints .u64 9 X)
theorem laidW_there (w:World) (X:Nat→Nat):(w.alloc (.cells zW 85)).there w.heap.size 0 (ints .u64 9 X).toArray.size:=by
 rw [ints_size];exact (RowAt.fresh (K := .u64) (X:=fun _=>0) (fun j hj=>zW_at j hj)).there
theorem laidW_row (w:World) (X:Nat→Nat):RowAt .u64 (laidW w X) w.heap.size 0 9 X:=by
 have h:=(RowAt.fresh (K := .u64) (w:=w) (cs:=zW) (t:=85) (X:=fun _=>0) (fun j hj=>zW_at j hj)).splice 0 9 X (by decide)
 refine h.congr (fun j hj => ?_)
 unfold over;rw [if_pos ⟨Nat.zero_le _,by omega⟩,Nat.sub_zero]
theorem laidW_below (w:World) (X:Nat→Nat):Below w.heap.size w (laidW w X):=below_setCells (Nat.le_refl _) _ _ _ ((Below.refl _ _).alloc (Nat.le_refl _) _)
set_option maxRecDepth 20000 in
set_option maxHeartbeats 2000000 in
theorem reduce_good (v:Value) (n:Nat) (bs:Nat→Nat) (hbs:∀ j,bs j<256) (hn:n≤64) (w:World) (hO:Ord w) (hv:BytesIn w v n bs) :
 Calls Tryz.prog 44 #[v] w fun e w'=>∃ s,e = .returned (.tuple #[s,.int .i64 0])∧NewB w w' s 32 (byt (ofB bs n%oL))∧Below w.heap.size w w':=by
 have cl:=load_any v n bs hbs hn w hv
 obtain ⟨xv,kv,rfl,-⟩:=hv.src
 have hN:=ofB_64 hbs hn
 have hni:¬(64:Int)<n:=by omega
 have cr:=fun W (hW:Below w.heap.size w W)=>rest_any W.heap.size (lw (ofB bs n)) (lw_lt _) (lw_zero hN (Nat.le_refl _)) (laidW W (lw (ofB bs n))) (laidW_row W _) ((hO.still hW).still (laidW_below W _)) (by have:=hW.size;have:=hO.lt;omega)
 rw [pt_lwN (Nat.lt_of_lt_of_le hN (Nat.pow_le_pow_right (by decide) (by decide)))] at cr
 obtain ⟨R,hR⟩:∃ R,R=ofB bs n%oL:=⟨_,rfl⟩
 rw [←hR] at cr ⊢
 obtain ⟨X,hX⟩:∃ X,X=lw (ofB bs n):=⟨_,rfl⟩
 rw [←hX] at cl cr
 have hz:=zeroW
 have hi2:=infoWA X
 have ho:=oneW X
 unfold wideV at cl
 clear hv hR hX hN hbs
 go_enter Tryz.func44,Tryz.ntmps44
 go_wp2_with (first
  | (go_at_call 54;refine cl.mono ?_;clear cl;rintro e w1 ⟨rfl,hb1⟩;(have hth:=laidW_there w1 X);replace cr:=cr w1 hb1)
  | (with_reducible (refine id (?_:wpList _ _ _ _ _ _));refine wpList_store_mid rfl 85 _ _ rfl w1.heap.size 0 (ints .u64 9 X).toArray rfl rfl hth hi2 ho ?_)
  | (go_at_call 56;refine Calls.mono (show Calls _ _ _ (laidW w1 X) _ from cr) ?_;clear cr;rintro e w3 ⟨h,rfl,hh1,hh2,hr,hout⟩))
 go_ret2
 have hbl:=hb1.trans ((laidW_below w1 X).mono hb1.size)
 have hb3:=hbl.trans (hout.below hb1.size hbl.size)
 exact ⟨_,rfl,⟨h,rfl,by have:=hbl.size;omega,hr⟩,hb3⟩
end Go.Proofs.YtdgkmloabificaaGreatDoor
namespace Go.Proofs.YtdgkmloabificaaGreatDoor
open Go.RowKit
def sumN (pn:Nat→Nat):Nat→Nat
 | 0=>0
 | i+1=>sumN pn i+pn i
def allB (pn:Nat→Nat) (pb:Nat→Nat→Nat):Nat→Nat→Nat
 | 0=>fun _=>0
 | i+1=>cat (sumN pn i) (allB pn pb i) (pb i)
theorem sumN_le (pn:Nat→Nat) {i j:Nat} (h:i≤j):sumN pn i≤sumN pn j:=by
 induction h with
 | refl=>exact Nat.le_refl _
 | step _ ih=>exact Nat.le_trans ih (Nat.le_add_right _ _)
structure PiecesIn (w:World) (xo:Option Addr) (cnt:Nat) (pv:Nat→Value) (pn:Nat→Nat) (pb:Nat→Nat→Nat):Prop where
 cell:∀ q,q<cnt→∃ lb lo,xo=some ⟨lb,lo,none⟩∧∀ i,i<cnt→w.cell? ⟨lb,lo+i,none⟩=some (pv i)
 each:∀ i,i<cnt→BytesIn w (pv i) (pn i) (pb i)
 byte:∀ i j,pb i j<256
set_option maxRecDepth 20000 in
set_option maxHeartbeats 4000000 in
theorem hashed_any (xo:Option Addr) (cnt cap:Nat) (pv:Nat→Value) (pn:Nat→Nat) (pb:Nat→Nat→Nat) (w:World) (hT:HTab w cubeK squareK) (hO:Ord w) (hP:PiecesIn w xo cnt pv pn pb) (hcnt:cnt≤1000) (hsum:sumN pn cnt<2305843009213693952) :
 Calls Tryz.prog 19 #[.slice xo cnt cap] w fun e w'=>∃ s,e = .returned s∧NewB w w' s 32 (byt (hL (sumN pn cnt) (allB pn pb cnt)))∧Below w.heap.size w w':=by
 have h3:=hT.size
 have hn1:=newMade512 w hT (fun _=>0)
 have hhs:=fun (W:World) (gh:Nat) (hM:Made512 W gh (sumN pn cnt) (allB pn pb cnt)) (hb:Below w.heap.size w W)=>hsum512_any gh (sumN pn cnt) (allB pn pb cnt) W hM (hT.below hb h3) hsum
 have hre:=fun (W:World) (v:Value) (hb:Below w.heap.size w W) hv=>reduce_good v 64 (h5 (sumN pn cnt) (allB pn pb cnt)) (h5_lt _ _) (by decide) W (hO.still hb) hv
 have hY:outB 64 (specS rw6 cubeK squareK (sumN pn cnt) (allB pn pb cnt))=h5 (sumN pn cnt) (allB pn pb cnt):=rfl
 have hZ:ofB (h5 (sumN pn cnt) (allB pn pb cnt)) 64%oL=hL (sumN pn cnt) (allB pn pb cnt):=rfl
 simp only [hY] at hhs
 simp only [hZ] at hre
 generalize h5 (sumN pn cnt) (allB pn pb cnt)=Y at *
 generalize hL (sumN pn cnt) (allB pn pb cnt)=Z at *
 clear hY hZ
 go_enter Tryz.func19,Tryz.ntmps19
 go_wp2_with (go_at_call 42;refine hn1.mono ?_;clear hn1;rintro e w1 ⟨gh,rfl,hgh,hMh,hb1⟩)
 go_loopw [11] (fun i wr=>∃ q:Nat,q≤cnt∧i = .int .i64 q∧Made512 wr gh (sumN pn q) (allB pn pb q)∧Below w.heap.size w wr) (fun i _=>cnt - (intOf i).toNat)
 case atStart=>exact ⟨0,Nat.zero_le _,rfl,hMh,hb1⟩
 case round =>
  clear hMh hb1
  obtain ⟨q,hq,rfl,hM,hbw⟩:=hrel
  by_cases hlt:q<cnt
  · obtain ⟨lb,lo,rfl,hcell⟩:=hP.cell q hlt
    have hBq:=hP.each q hlt
    have hbyte:=hP.byte q
    obtain ⟨n,hn⟩:∃ n,n=pn q:=⟨_,rfl⟩
    obtain ⟨T,hTe⟩:∃ T,T=sumN pn q:=⟨_,rfl⟩
    obtain ⟨A,hA⟩:∃ A,A=allB pn pb q:=⟨_,rfl⟩
    obtain ⟨pbq,hpbq⟩:∃ b,b=pb q:=⟨_,rfl⟩
    have hTn:T+n<2305843009213693952:=by
     have h1:sumN pn (q+1)≤sumN pn cnt:=sumN_le pn hlt
     have h2:sumN pn (q+1)=sumN pn q+pn q:=rfl
     omega
    have HN:Hid (sumN pn (q+1)=T+n∧allB pn pb (q+1)=cat T A pbq):=(⟨by rw [hTe,hn];rfl,by rw [hTe,hA,hpbq];rfl⟩:sumN pn (q+1)=T+n∧allB pn pb (q+1)=cat T A pbq)
    rw [←hn,←hpbq] at hBq
    rw [←hpbq] at hbyte
    rw [←hTe,←hA] at hM
    have hc0:=hcell q hlt
    have hcl:lb<w.heap.size:=block_lt_of_cell hc0
    obtain ⟨xp,cp,hpv,hxn,hncp,hsrc⟩:=hBq.src
    rw [hpv] at hc0 hBq
    have r0:wr.cell? ⟨lb,lo+q,none⟩=some (.slice xp n cp):=(hbw.cell (p:=⟨lb,lo+q,none⟩) hcl).trans hc0
    have hqi:(0:Int)≤(q:Int)∧(q:Int)<cnt:=by omega
    have hw:=hwrite512_any gh T n (.slice xp n cp) A pbq hbyte wr hM (hT.below hbw h3) (by omega) (hBq.away hbw hgh) (by omega)
    have hd:decide ((q:Int)<(cnt:Int))=true:=decide_eq_true (by omega)
    clear hn hTe hA hpbq hpv hcell hc0 hre hhs
    go_wp2_with (go_at_call 43;refine hw.mono ?_;clear hw;rintro e w2 ⟨rfl,hM2,hO2⟩)
    go_roundw
    case rel=>exact ⟨q+1,by omega,by go_num,by rw [HN.out.1,HN.out.2];exact hM2,hbw.trans (hO2.below hgh hbw.size)⟩
    case measure=>simp [intOf];omega
  · have hqe:q=cnt:=by omega
    subst hqe
    have hs:=hhs wr gh hM hbw
    clear hhs
    go_wp2_with (first
     | (go_at_call 45;refine hs.mono ?_;clear hs;rintro e w2 ⟨ga,rfl,hga,hra,hb2⟩;(have hb2w:=below_next hbw hb2);(have hr2:=hre w2 (.slice (some ⟨ga,0,none⟩) 64 64) hb2w (.inr ⟨ga,0,64,rfl,block_lt_of_cell (hra 0 (by decide)).1,Nat.le_refl _,fun j hj=>(hra j hj).1⟩));clear hre)
     | (go_at_call 44;refine hr2.mono ?_;clear hr2;rintro e w3 ⟨s3,rfl,hn3,hb3⟩))
    go_ret
    obtain ⟨g3,rfl,hg3,hr3⟩:=hn3
    exact ⟨_,rfl,⟨g3,rfl,Nat.le_trans hb2w.size hg3,hr3⟩,below_next hb2w hb3⟩
end Go.Proofs.YtdgkmloabificaaGreatDoor
namespace Go.Proofs.YtdgkmloabificaaGreatDoor
open Go.RowKit
theorem run_append_zeros_nil (w:World) (ty:TypeId) (m:Nat) (h0:0<m) (hm:m≤1000000) :
 (Builtin.append_ #[22,3] ty #[.slice none 0 0,.int .i64 m]).run Tryz.prog w =
  .ok (.slice (some ⟨w.heap.size,0,none⟩) m (grownCap w m 0 5)) (w.drew.alloc (.cells ((ints .u8 m (fun _=>0)).toArray ++ Builtin.zeroCells #[.int .u8 0] (grownCap w m 0 5 - m)) 5)):=by
 obtain ⟨i,hi,hz,hz1,hz2⟩:=info_parts Tryz.info5
 have h63':¬ (9223372036854775807<(m:Int)):=by omega
 have hw:IntKind.i64.wrap (m:Int)=m:=by simp only [IntKind.wrap_i64];omega
 have hl0:¬((m:Int)<0):=by omega
 have h48:¬ (281474976710656<(m:Int)):=by omega
 have hm0:¬(m=0):=by omega
 have hai:∀ W,Sem.run Tryz.prog (asInt (.int .i64 (m:Int))) W = .ok (m:Int) W:=fun _=>rfl
 have hc:(Value.int IntKind.u8 0).cells=#[.int .u8 0]:=rfl
 have hu:=run_underlying (P:=Tryz.prog) Tryz.underlying22
 have hu2:=run_underlying (P:=Tryz.prog) Tryz.underlying3
 have hns:¬ (281474976710656<Builtin.nextslicecap m 0):=by rw [nextslicecap_zero h0];omega
 simp [Builtin.append_,hu,hu2,sizeOf,typeInfo,zeroValue,hi,hz,hai,hw,hl0,h48,hz1,hz2,h63',Question.forced,run_firstCells_none,newRow,grownCap,hc,hm0,hns]
 rw [zeroCells_u8 m]
theorem append_zeros0 (w:World) (ty:TypeId) (m:Nat) (h0:0<m) (hm:m≤1000000) :
 ∃ g cap w',(Builtin.append_ #[22,3] ty #[.slice none 0 0,.int .i64 m]).run Tryz.prog w = .ok (.slice (some ⟨g,0,none⟩) m cap) w'∧m≤cap∧Own w.heap.size w' (.slice (some ⟨g,0,none⟩) 0 cap) 0 (fun _=>0)∧Below w.heap.size w w':=by
 have hge:=grownCap_ge w m 0 5
 have hcm:=grownCap_le_maxLen w m 0 5 (by unfold maxLen;omega)
 refine ⟨_,_,_,run_append_zeros_nil w ty m h0 hm,hge,⟨rfl,.inr ⟨w.heap.size,_,_,rfl,Nat.le_refl _,heap_alloc_new w.drew _,Nat.zero_le _,hcm,?_,rfl⟩⟩,((Below.refl _ _).drew).alloc (Nat.le_refl _) _⟩
 simp only [Array.size_append,List.size_toArray,size_zeroCells,ints_len]
 simp
 omega
theorem wpList_append_zeros0 {w:World} {ops:Array Oper} {rest:List Oper} {o:Oper} {a:Act} {Q:Exit→Act→World→Prop} (hgd:o.guard=none) (s x:Operand)
 (ho:o.op = .call { callee := .builtin .append,args:=#[s,x],argTypes:=#[22,3] }) (hs:a.eval s = .slice none 0 0) (m:Nat) (hx:a.eval x = .int .i64 m) (h0:0<m) (hm:m≤1000000)
 (h:∀ g cap w',m≤cap→Own w.heap.size w' (.slice (some ⟨g,0,none⟩) 0 cap) 0 (fun _=>0)→Below w.heap.size w w'→wpList Tryz.prog ops Q rest (a.put o.dst (.slice (some ⟨g,0,none⟩) m cap)) w'):wpList Tryz.prog ops Q (o :: rest) a w:=by
 refine wpList_plain hgd fun K hK => ?_
 obtain ⟨g,cap,w',h1,h2,h3,h4⟩:=append_zeros0 w o.type m h0 hm
 unfold Oper.wp execOp
 simp only [ho,resolve,invoke,builtin,Sem.run_bind,Sem.run_pure,Result.andThen_ok,List.map_toArray,List.map_cons,List.map_nil,hs,hx,h1]
 exact hK _ _ (h g cap w' h2 h3 h4)
set_option maxRecDepth 20000 in
set_option maxHeartbeats 4000000 in
theorem grow_any (m:Nat) (h0:0<m) (hm:m≤1000000) (w:World) :
 Calls Tryz.prog 57 #[.slice none 0 0,.int .i64 m] w fun e w'=>∃ g cap,e = .returned (.slice (some ⟨g,0,none⟩) 0 cap)∧Own w.heap.size w' (.slice (some ⟨g,0,none⟩) 0 cap) 0 (fun _=>0)∧Below w.heap.size w w':=by
 have e1:¬((m:Int)<0):=by omega
 have e2:(0:Int)<(m:Int):=by omega
 have e3:IntKind.i64.wrap ((m:Int) - 0)=(m:Int):=by simp only [IntKind.wrap_i64];omega
 have e4:IntKind.i64.wrap (m:Int)=(m:Int):=by simp only [IntKind.wrap_i64];omega
 go_enter Tryz.func57,Tryz.ntmps57
 go_wp2_with (at_builtin;refine wpList_append_zeros0 rfl (.tmp 20) (.tmp 21) rfl rfl m rfl h0 hm ?_;intro g cap w1 hcap own hb)
 go_ret
 exact ⟨g,cap,rfl,own,hb⟩
set_option maxRecDepth 20000 in
set_option maxHeartbeats 8000000 in
theorem concat_any (xo:Option Addr) (cnt cap:Nat) (pv:Nat→Value) (pn:Nat→Nat) (pb:Nat→Nat→Nat) (w:World) (hP:PiecesIn w xo cnt pv pn pb) (hcnt:cnt≤1000) (hsum:sumN pn cnt≤1000000) (h0:0<sumN pn cnt) :
 Calls Tryz.prog 24 #[.slice xo cnt cap] w fun e w'=>∃ s,e = .returned s∧Own w.heap.size w' s (sumN pn cnt) (allB pn pb cnt)∧Below w.heap.size w w':=by
 have hg:=grow_any (sumN pn cnt) h0 hsum w
 go_enter Tryz.func24,Tryz.ntmps24
 go_wp2
 go_loopw [3,11] (fun s i wr=>∃ q:Nat,q≤cnt∧i = .int .i64 q∧s = .int .i64 (sumN pn q:Nat)∧w=wr) (fun _ i _=>cnt - (intOf i).toNat)
 case atStart=>exact ⟨0,Nat.zero_le _,rfl,rfl,rfl⟩
 case round =>
  obtain ⟨q,hq,rfl,rfl,rfl⟩:=hrel
  by_cases hlt:q<cnt
  · obtain ⟨lb,lo,rfl,hcell⟩:=hP.cell q hlt
    have hBq:=hP.each q hlt
    obtain ⟨n,hn⟩:∃ n,n=pn q:=⟨_,rfl⟩
    obtain ⟨T,hTe⟩:∃ T,T=sumN pn q:=⟨_,rfl⟩
    have hTn:T+n≤1000000:=by
     have h1:sumN pn (q+1)≤sumN pn cnt:=sumN_le pn hlt
     have h2:sumN pn (q+1)=sumN pn q+pn q:=rfl
     omega
    have HN:Hid (sumN pn (q+1)=T+n):=(by rw [hTe,hn];rfl:sumN pn (q+1)=T+n)
    rw [←hn] at hBq
    rw [←hTe]
    have r0:=hcell q hlt
    obtain ⟨xp,cp,hpv,hxn,hncp,hsrc⟩:=hBq.src
    rw [hpv] at r0
    have hqi:(0:Int)≤(q:Int)∧(q:Int)<cnt:=by omega
    have hd:decide ((q:Int)<(cnt:Int))=true:=decide_eq_true (by omega)
    have ew:IntKind.i64.wrap ((T:Int)+(n:Int))=(T:Int)+n:=by simp only [IntKind.wrap_i64];omega
    have en:¬((T:Int)+(n:Int)<0):=by omega
    clear hn hTe hpv hcell hsrc hBq hg
    go_wp2
    go_roundw
    case rel=>exact ⟨q+1,by omega,by go_num,by rw [HN.out];simp,by first | rfl | trivial⟩
    case measure=>simp [intOf];omega
  · have hqe:q=cnt:=by omega
    subst hqe
    generalize hS:sumN pn q=S at *
    go_wp2_with (go_at_call 57;refine hg.mono ?_;clear hg;rintro e w1 ⟨g1,cap1,rfl,own1,hb1⟩)
    have hd0:decide ((q:Int)<(q:Int))=false:=decide_eq_false (by omega)
    try rw [hd0]
    clear hd0 hlt
    subst hS
    go_loopw [6,27] (fun ns i wr=>∃ r:Nat,r≤q∧i = .int .i64 r∧Own w.heap.size wr ns (sumN pn r) (allB pn pb r)∧Below w.heap.size w wr) (fun _ i _=>q - (intOf i).toNat)
    case atStart=>exact ⟨0,Nat.zero_le _,rfl,own1,hb1⟩
    case round =>
     clear own1 hb1
     obtain ⟨r,hr,rfl,own,hbw⟩:=hrel
     by_cases hlt:r<q
     · obtain ⟨lb,lo,rfl,hcell⟩:=hP.cell r hlt
       have hBq:=hP.each r hlt
       obtain ⟨n,hn⟩:∃ n,n=pn r:=⟨_,rfl⟩
       obtain ⟨T,hTe⟩:∃ T,T=sumN pn r:=⟨_,rfl⟩
       obtain ⟨A,hA⟩:∃ A,A=allB pn pb r:=⟨_,rfl⟩
       obtain ⟨pbq,hpbq⟩:∃ b,b=pb r:=⟨_,rfl⟩
       have hTn:T+n≤1000000:=by
        have h1:sumN pn (r+1)≤sumN pn q:=sumN_le pn hlt
        have h2:sumN pn (r+1)=sumN pn r+pn r:=rfl
        omega
       have HN:Hid (sumN pn (r+1)=T+n∧allB pn pb (r+1)=cat T A pbq):=(⟨by rw [hTe,hn];rfl,by rw [hTe,hA,hpbq];rfl⟩:sumN pn (r+1)=T+n∧allB pn pb (r+1)=cat T A pbq)
       rw [←hn,←hpbq] at hBq
       rw [←hTe,←hA] at own
       have hc0:=hcell r hlt
       have hcl:lb<w.heap.size:=block_lt_of_cell hc0
       obtain ⟨xp,cp,hpv,hxn,hncp,hsrc⟩:=hBq.src
       rw [hpv] at hc0
       have r0:wr.cell? ⟨lb,lo+r,none⟩=some (.slice xp n cp):=(hbw.cell (p:=⟨lb,lo+r,none⟩) hcl).trans hc0
       have hqi:(0:Int)≤(r:Int)∧(r:Int)<q:=by omega
       have hd:decide ((r:Int)<(q:Int))=true:=decide_eq_true (by omega)
       have src:=hsrc wr hbw
       have hsz:=hbw.size
       clear hn hTe hA hpbq hpv hcell hc0 hsrc
       go_wp2_with (at_builtin;refine wpList_append_bytes rfl (.tmp 31) (.tmp 32) rfl w.heap.size u6 T A rfl own xp n cp pbq rfl src hxn (by omega) hsz ?_;intro v6 w6 own6 grow6;(have hb6:Below w.heap.size w w6:=Own.grown hbw grow6 own (Nat.le_refl _) hsz))
       go_roundw
       case rel=>exact ⟨r+1,by omega,by go_num,by rw [HN.out.1,HN.out.2];exact own6,hb6⟩
       case measure=>simp [intOf];omega
     · have hqe:r=q:=by omega
       subst hqe
       go_wp2
       go_ret
       exact ⟨_,rfl,own,hbw⟩
end Go.Proofs.YtdgkmloabificaaGreatDoor
namespace Go.Proofs.YtdgkmloabificaaGreatDoor
open Go.RowKit
theorem RowAt.farCells {K:IntKind} {w:World} {b o n:Nat} {X:Nat→Nat} (h:RowAt K w b o n X) {k:Nat} (hk:b≠k) (p:Nat) (vs:List Value):RowAt K (w.setCells k p vs) b o n X:=fun j hj=>by
 have hb:(w.setCells k p vs).heap[b]? = w.heap[b]?:=heap_setCells_other k vs p w b hk
 exact ⟨(World.cell?_of_block (w:=w) hb).trans (h j hj).1,(World.frozen?_of_block (w:=w) hb).trans (h j hj).2⟩
abbrev three0 (w:World):World:=((w.alloc (.cells zW 85)).alloc (.cells zW 85)).alloc (.cells zW 85)
theorem three0_below (w:World):Below w.heap.size w (three0 w):=(((Below.refl _ _).alloc (Nat.le_refl _) _).alloc (by simp) _).alloc (by simp;omega) _
theorem fresh9 (w:World):RowAt .u64 (w.alloc (.cells zW 85)) w.heap.size 0 9 (fun _=>0):=RowAt.fresh (fun j hj=>zW_at j hj)
theorem three0_rows (w:World):RowAt .u64 (three0 w) w.heap.size 0 9 (fun _=>0)∧RowAt .u64 (three0 w) (w.heap.size+1) 0 9 (fun _=>0)∧RowAt .u64 (three0 w) (w.heap.size+1+1) 0 9 (fun _=>0):=by
 have h2:=fresh9 (w.alloc (.cells zW 85))
 have h3:=fresh9 ((w.alloc (.cells zW 85)).alloc (.cells zW 85))
 rw [World.size_alloc] at h2 h3
 rw [World.size_alloc] at h3
 exact ⟨((fresh9 w).alloc (by simp) _).alloc (by simp;omega) _,h2.alloc (by simp) _,h3⟩
theorem put9 {w:World} {g:Nat} (h:RowAt .u64 w g 0 9 (fun _=>0)) (X:Nat→Nat):RowAt .u64 (w.setCells g 0 (ints .u64 9 X)) g 0 9 X:=by
 refine (h.splice 0 9 X (by decide)).congr (fun j hj => ?_)
 unfold over;rw [if_pos ⟨Nat.zero_le _,by omega⟩,Nat.sub_zero]
abbrev laid1 (w:World) (A:Nat→Nat):World:=(three0 w).setCells w.heap.size 0 (ints .u64 9 A)
abbrev laid2 (w:World) (A B:Nat→Nat):World:=(laid1 w A).setCells (w.heap.size+1) 0 (ints .u64 9 B)
def laid3 (w:World) (A B C:Nat→Nat):World:=(laid2 w A B).setCells (w.heap.size+1+1) 0 (ints .u64 9 C)
theorem laid_theres (w:World) (A B C:Nat→Nat):(three0 w).there w.heap.size 0 (ints .u64 9 A).toArray.size∧(laid1 w A).there (w.heap.size+1) 0 (ints .u64 9 B).toArray.size∧(laid2 w A B).there (w.heap.size+1+1) 0 (ints .u64 9 C).toArray.size:=by
 obtain ⟨h1,h2,h3⟩:=three0_rows w
 rw [ints_size,ints_size,ints_size]
 exact ⟨h1.there,(h2.farCells (by omega) _ _).there,((h3.farCells (by omega) _ _).farCells (by omega) _ _).there⟩
theorem laid3_rows (w:World) (A B C:Nat→Nat):RowAt .u64 (laid3 w A B C) w.heap.size 0 9 A∧RowAt .u64 (laid3 w A B C) (w.heap.size+1) 0 9 B∧RowAt .u64 (laid3 w A B C) (w.heap.size+1+1) 0 9 C:=by
 obtain ⟨h1,h2,h3⟩:=three0_rows w
 exact ⟨((put9 h1 A).farCells (by omega) _ _).farCells (by omega) _ _,(put9 (h2.farCells (by omega) _ _) B).farCells (by omega) _ _,put9 ((h3.farCells (by omega) _ _).farCells (by omega) _ _) C⟩
theorem laid3_below (w:World) (A B C:Nat→Nat):Below w.heap.size w (laid3 w A B C):=below_setCells (by omega) _ _ _ (below_setCells (by omega) _ _ _ (below_setCells (Nat.le_refl _) _ _ _ (three0_below w)))
theorem addp_eq {p q r a b c N:Nat} (hp:p=a) (hq:q=b) (hr:r=c) (h:a+b*c=N):p+q*r=N:=by rw [hp,hq,hr];exact h
theorem addp_N (g ga gb:Nat) (X A B:Nat→Nat) (N:Nat) (hN:pt X 0 9+pt A 0 4*pt B 0 4=N) (hga:g≠ga) (hgb:g≠gb) (hX:∀ j,X j<18446744073709551616) (hA:∀ j,A j<18446744073709551616) (hB:∀ j,B j<18446744073709551616) (hz:∀ j,4≤j→j<9→X j=0) (w:World) (hrow0:RowAt .u64 w g 0 9 X) (hra0:RowAt .u64 w ga 0 9 A) (hrb0:RowAt .u64 w gb 0 9 B) :
 Calls Tryz.prog 55 #[.pointer (some ⟨g,0,none⟩),.pointer (some ⟨ga,0,none⟩),.pointer (some ⟨gb,0,none⟩)] w fun e w'=>e = .returned (.tuple #[])∧∃ Y,RowAt .u64 w' g 0 9 Y∧(∀ j,Y j<18446744073709551616)∧Y 8=0∧pt Y 0 9=N∧Out g 0 9 w w' :=
 (addp_any g ga gb X A B hga hgb hX hA hB hz w hrow0 hra0 hrb0).mono fun _ _ ⟨he,Y,h1,h2,h3,h4,h5⟩=>⟨he,Y,h1,h2,h3,h4.trans hN,h5⟩
set_option maxRecDepth 20000 in
set_option maxHeartbeats 4000000 in
theorem muladd_good (va vb vc:Value) (ds bs cs:Nat→Nat) (hds:∀ j,ds j<256) (hbs:∀ j,bs j<256) (hcs:∀ j,cs j<256) (w:World) (hO:Ord w) (ha:BytesIn w va 32 ds) (hb:BytesIn w vb 32 bs) (hc:BytesIn w vc 32 cs) :
 Calls Tryz.prog 23 #[va,vb,vc] w fun e w'=>∃ s,e = .returned (.tuple #[s,.int .i64 0])∧NewB w w' s 32 (byt ((ofB cs 32+ofB ds 32*ofB bs 32)%oL))∧Below w.heap.size w w':=by
 have ca:=load_any va 32 ds hds (by decide) w ha
 have cb:=fun W (h:Below w.heap.size w W)=>load_any vb 32 bs hbs (by decide) W (hb.still h)
 have cc:=fun W (h:Below w.heap.size w W)=>load_any vc 32 cs hcs (by decide) W (hc.still h)
 have pA:=pt_lwN (ofB_32 hds)
 have pB:=pt_lwN (ofB_32 hbs)
 have pC:=pt_lwN (Nat.lt_of_lt_of_le (ofB_32 hcs) (Nat.pow_le_pow_right (n:=18446744073709551616) (by decide) (show 4≤9 by decide)))
 have zC:=fun j (h:4≤j) (_:j<9)=>lw_zero (ofB_32 hcs) h
 obtain ⟨xa,ka,rfl,-⟩:=ha.src
 obtain ⟨xb,kb,rfl,-⟩:=hb.src
 obtain ⟨xc,kc,rfl,-⟩:=hc.src
 have hA:=lw_lt (ofB ds 32)
 have hB:=lw_lt (ofB bs 32)
 have hC:=lw_lt (ofB cs 32)
 generalize hN:ofB cs 32+ofB ds 32*ofB bs 32=N
 have hN':=Hid.mk' (addp_eq pC pA pB hN)
 obtain ⟨A,hAe⟩:∃ X,X=lw (ofB ds 32):=⟨_,rfl⟩
 obtain ⟨B,hBe⟩:∃ X,X=lw (ofB bs 32):=⟨_,rfl⟩
 obtain ⟨C,hCe⟩:∃ X,X=lw (ofB cs 32):=⟨_,rfl⟩
 rw [←hAe] at ca hA hN'
 rw [←hBe] at cb hB hN'
 rw [←hCe] at cc hC zC hN'
 unfold wideV at ca cb cc
 clear pA pB pC hN hAe hBe hCe ha hb hc hds hbs hcs
 have cp:=fun (W:World)=>addp_N (W.heap.size+1+1) W.heap.size (W.heap.size+1) C A B N hN'.out (by omega) (by omega) hC hA hB zC (laid3 W A B C) (laid3_rows W A B C).2.2 (laid3_rows W A B C).1 (laid3_rows W A B C).2.1
 have cr:=fun (W:World) (X:Nat→Nat) g (hX:∀ j,X j<18446744073709551616) h8 hr hOW hg=>rest_any g X hX h8 W hr hOW hg
 have hz:=zeroW
 have iA:=infoWA A
 have iB:=infoWA B
 have iC:=infoWA C
 have oA:=oneW A
 have oB:=oneW B
 have oC:=oneW C
 clear hN' hA hB hC zC
 go_enter Tryz.func23,Tryz.ntmps23
 go_wp2_with (first
  | (go_at_call 54;refine ca.mono ?_;clear ca;rintro e w1 ⟨rfl,hb1⟩;replace cb:=cb w1 hb1)
  | (go_at_call 54;refine cb.mono ?_;clear cb;rintro e w2 ⟨rfl,hb2⟩;(have hw2:=hb1.trans (hb2.mono hb1.size));replace cc:=cc w2 hw2)
  | (go_at_call 54;refine cc.mono ?_;clear cc;rintro e w3 ⟨rfl,hb3⟩;(have hw3:=hw2.trans (hb3.mono hw2.size));(obtain ⟨t1,t2,t3⟩:=laid_theres w3 A B C);replace cp:=cp w3;clear hb1 hb2 hw2 hb3)
  | (with_reducible (refine id (?_:wpList _ _ _ _ _ _));refine wpList_store_mid rfl 85 _ _ rfl w3.heap.size 0 (ints .u64 9 A).toArray rfl rfl t1 iA oA ?_;clear t1)
  | (with_reducible (refine id (?_:wpList _ _ _ _ _ _));refine wpList_store_mid rfl 85 _ _ rfl (w3.heap.size+1) 0 (ints .u64 9 B).toArray rfl rfl t2 iB oB ?_;clear t2)
  | (with_reducible (refine id (?_:wpList _ _ _ _ _ _));refine wpList_store_mid rfl 85 _ _ rfl (w3.heap.size+1+1) 0 (ints .u64 9 C).toArray rfl rfl t3 iC oC ?_;clear t3)
  | (go_at_call 55;refine Calls.mono (show Calls _ _ _ (laid3 w3 A B C) _ from cp) ?_;clear cp;rintro e w4 ⟨rfl,Y,hr4,hY,hY8,hval,ho4⟩;(have hb34:Below w3.heap.size w3 w4:=(laid3_below w3 A B C).trans (ho4.below (by omega) (laid3_below w3 A B C).size));(have hw4:=hw3.trans (hb34.mono hw3.size));(have HV:=Hid.mk' hval);clear hval;replace cr:=cr w4 Y (w3.heap.size+1+1) hY hY8 hr4 (hO.still hw4) (by have:=hO.lt;have:=hw3.size;omega))
  | (go_at_call 56;refine cr.mono ?_;clear cr;rintro e w5 ⟨h,rfl,hh1,hh2,hr5,ho5⟩))
 go_ret2
 have hb5:=hw4.trans (ho5.below (B:=w.heap.size) (by have:=hw3.size;omega) hw4.size)
 rw [HV.out] at hr5
 exact ⟨_,rfl,⟨h,rfl,by have:=hw4.size;omega,hr5⟩,hb5⟩
end Go.Proofs.YtdgkmloabificaaGreatDoor
namespace Go.Proofs.YtdgkmloabificaaGreatDoor
open Go.RowKit
structure SgCtx (G:World→Prop) (R:List Value→Fp × Fp→Prop):Prop where
 api:PointApi G R
 tab:∀ w,G w→HTab w cubeK squareK
 ord:∀ w,G w→Ord w
theorem SgCtx.sha {G:World→Prop} {R:List Value→Fp × Fp→Prop} (c:SgCtx G R):ShaC G:=fun v n bs w hbs hn hv hG=>by
 have h:=Sum512_any cubeK squareK v n bs hbs w (c.tab w hG) hv hn
 rw [hashS_spec cubeK squareK n _ (by decide)] at h
 exact h
def pick3 {α:Type} (a b c:α) (i:Nat):α:=match i with | 0=>a | 1=>b | _=>c
theorem alloc_cells (w:World) (cs:Array Value) (t:TypeId) (j:Nat):(w.alloc (.cells cs t)).cell? ⟨w.heap.size,j,none⟩=cs[j]?:=by simp
theorem hashed2 {G:World→Prop} {R:List Value→Fp × Fp→Prop} (cx:SgCtx G R) {v1 v2:Value} {n1 n2:Nat} {b1 b2:Nat→Nat} (l1:∀ j,b1 j<256) (l2:∀ j,b2 j<256) (w:World) (h1:BytesIn w v1 n1 b1) (h2:BytesIn w v2 n2 b2) (hG:G w) (hn:n1+n2<2305843009213693952) :
 Calls Tryz.prog 19 #[.slice (some ⟨w.heap.size,0,none⟩) 2 2] (w.alloc (.cells #[v1,v2] 22)) fun e w'=>∃ g,e = .returned (.slice (some ⟨g,0,none⟩) 32 32)∧w.heap.size≤g∧RowAt .u8 w' g 0 32 (byt (hL (n1+n2) (cat n1 b1 b2)))∧Below w.heap.size w w':=by
 have b:Below w.heap.size w (w.alloc (.cells #[v1,v2] 22)):=(Below.refl _ _).alloc (Nat.le_refl _) _
 have hG':=cx.api.keep _ _ hG b
 have hP:PiecesIn (w.alloc (.cells #[v1,v2] 22)) (some ⟨w.heap.size,0,none⟩) 2 (pick3 v1 v2 v2) (pick3 n1 n2 n2) (pick3 b1 b2 b2):=by
  refine ⟨fun q _=>⟨w.heap.size,0,rfl,fun i hi => ?_⟩,fun i hi => ?_,fun i j => ?_⟩
  · rw [Nat.zero_add,alloc_cells]
    rcases (show i=0∨i=1 by omega) with rfl | rfl <;> rfl
  · rcases (show i=0∨i=1 by omega) with rfl | rfl
    · exact h1.still b
    · exact h2.still b
  · match i with
    | 0=>exact l1 j
    | 1=>exact l2 j
    | k+2=>exact l2 j
 have hs:sumN (pick3 n1 n2 n2) 2=n1+n2:=by show 0+n1+n2=n1+n2;omega
 have he:hL (sumN (pick3 n1 n2 n2) 2) (allB (pick3 n1 n2 n2) (pick3 b1 b2 b2) 2)=hL (n1+n2) (cat n1 b1 b2):=by
  rw [hs]
  refine hL_congr fun j _ => ?_
  show cat (0+n1) (cat 0 (fun _=>0) b1) b2 j=cat n1 b1 b2 j
  rw [Nat.zero_add]
  rfl
 refine (hashed_any _ 2 2 _ _ _ _ (cx.tab _ hG') (cx.ord _ hG') hP (by decide) (by rw [hs];exact hn)).mono fun e w' ⟨s,hs',⟨g,hg,hgs,hr⟩,hb⟩ => ?_
 rw [he] at hr
 subst hg
 exact ⟨g,hs',Nat.le_trans b.size hgs,hr,below_next b hb⟩
theorem hashed3 {G:World→Prop} {R:List Value→Fp × Fp→Prop} (cx:SgCtx G R) {v1 v2 v3:Value} {n1 n2 n3:Nat} {b1 b2 b3:Nat→Nat} (l1:∀ j,b1 j<256) (l2:∀ j,b2 j<256) (l3:∀ j,b3 j<256) (w:World) (h1:BytesIn w v1 n1 b1) (h2:BytesIn w v2 n2 b2) (h3:BytesIn w v3 n3 b3) (hG:G w) (hn:n1+n2+n3<2305843009213693952) :
 Calls Tryz.prog 19 #[.slice (some ⟨w.heap.size,0,none⟩) 3 3] (w.alloc (.cells #[v1,v2,v3] 22)) fun e w'=>∃ g,e = .returned (.slice (some ⟨g,0,none⟩) 32 32)∧w.heap.size≤g∧RowAt .u8 w' g 0 32 (byt (hL (n1+n2+n3) (cat (n1+n2) (cat n1 b1 b2) b3)))∧Below w.heap.size w w':=by
 have b:Below w.heap.size w (w.alloc (.cells #[v1,v2,v3] 22)):=(Below.refl _ _).alloc (Nat.le_refl _) _
 have hG':=cx.api.keep _ _ hG b
 have hP:PiecesIn (w.alloc (.cells #[v1,v2,v3] 22)) (some ⟨w.heap.size,0,none⟩) 3 (pick3 v1 v2 v3) (pick3 n1 n2 n3) (pick3 b1 b2 b3):=by
  refine ⟨fun q _=>⟨w.heap.size,0,rfl,fun i hi => ?_⟩,fun i hi => ?_,fun i j => ?_⟩
  · rw [Nat.zero_add,alloc_cells]
    rcases (show i=0∨i=1∨i=2 by omega) with rfl | rfl | rfl <;> rfl
  · rcases (show i=0∨i=1∨i=2 by omega) with rfl | rfl | rfl
    · exact h1.still b
    · exact h2.still b
    · exact h3.still b
  · match i with
    | 0=>exact l1 j
    | 1=>exact l2 j
    | k+2=>exact l3 j
 have hs:sumN (pick3 n1 n2 n3) 3=n1+n2+n3:=by show 0+n1+n2+n3=n1+n2+n3;omega
 have he:hL (sumN (pick3 n1 n2 n3) 3) (allB (pick3 n1 n2 n3) (pick3 b1 b2 b3) 3)=hL (n1+n2+n3) (cat (n1+n2) (cat n1 b1 b2) b3):=by
  rw [hs]
  refine hL_congr fun j _ => ?_
  show cat (0+n1+n2) (cat (0+n1) (cat 0 (fun _=>0) b1) b2) b3 j=cat (n1+n2) (cat n1 b1 b2) b3 j
  rw [Nat.zero_add]
  rfl
 refine (hashed_any _ 3 3 _ _ _ _ (cx.tab _ hG') (cx.ord _ hG') hP (by decide) (by rw [hs];exact hn)).mono fun e w' ⟨s,hs',⟨g,hg,hgs,hr⟩,hb⟩ => ?_
 rw [he] at hr
 subst hg
 exact ⟨g,hs',Nat.le_trans b.size hgs,hr,below_next b hb⟩
theorem concat2 {v1 v2:Value} {b1 b2:Nat→Nat} (l1:∀ j,b1 j<256) (l2:∀ j,b2 j<256) (w:World) (h1:BytesIn w v1 32 b1) (h2:BytesIn w v2 32 b2) :
 Calls Tryz.prog 24 #[.slice (some ⟨w.heap.size,0,none⟩) 2 2] (w.alloc (.cells #[v1,v2] 22)) fun e w'=>∃ g cap,e = .returned (.slice (some ⟨g,0,none⟩) 64 cap)∧64≤cap∧w.heap.size≤g∧RowAt .u8 w' g 0 64 (cat 32 b1 b2)∧Below w.heap.size w w':=by
 have b:Below w.heap.size w (w.alloc (.cells #[v1,v2] 22)):=(Below.refl _ _).alloc (Nat.le_refl _) _
 have hP:PiecesIn (w.alloc (.cells #[v1,v2] 22)) (some ⟨w.heap.size,0,none⟩) 2 (pick3 v1 v2 v2) (pick3 32 32 32) (pick3 b1 b2 b2):=by
  refine ⟨fun q _=>⟨w.heap.size,0,rfl,fun i hi => ?_⟩,fun i hi => ?_,fun i j => ?_⟩
  · rw [Nat.zero_add,alloc_cells]
    rcases (show i=0∨i=1 by omega) with rfl | rfl <;> rfl
  · rcases (show i=0∨i=1 by omega) with rfl | rfl
    · exact h1.still b
    · exact h2.still b
  · match i with
    | 0=>exact l1 j
    | 1=>exact l2 j
    | k+2=>exact l2 j
 refine (concat_any _ 2 2 _ _ _ _ hP (by decide) (by decide) (by decide)).mono fun e w' ⟨s,hs',hown,hb⟩ => ?_
 have hown':Own (w.alloc (.cells #[v1,v2] 22)).heap.size w' s 64 (cat 32 b1 b2):=hown
 obtain ⟨g,cap,rfl,hg,-,hcap,hr⟩:=hown'.form.resolve_left (fun h=>by omega)
 exact ⟨g,cap,hs',hcap,Nat.le_trans b.size hg,hr,below_next b hb⟩
theorem rN_of (s:Nat→Nat) (n:Nat) (t:Nat→Nat):ofB (byt (rN s n t)) 32=rN s n t:=ofB_ord (hL_lt _ _)
theorem kN_of (R A:Nat→Nat) (n:Nat) (t:Nat→Nat):ofB (byt (kN R A n t)) 32=kN R A n t:=ofB_ord (hL_lt _ _)
theorem rowB {w:World} {g o n m cap:Nat} {X:Nat→Nat} (h:RowAt .u8 w g o m X) (hn:n≤m) (h0:0<n) (hc:n≤cap):BytesIn w (.slice (some ⟨g,o,none⟩) n cap) n X := .inr ⟨g,o,cap,rfl,block_lt_of_cell (h 0 (by omega)).1,hc,fun j hj=>(h j (by omega)).1⟩
theorem RowAt.stillB {K:IntKind} {w w':World} {b o n:Nat} {X:Nat→Nat} (h:RowAt K w b o n X) (hb:Below w.heap.size w w') (h0:0<n:=by decide):RowAt K w' b o n X:=h.below hb (block_lt_of_cell (h 0 h0).1)
set_option maxRecDepth 20000 in
set_option maxHeartbeats 4000000 in
theorem sign_bad (v t:Value) (n:Nat) (bs:Nat→Nat) (w:World) (hv:BytesIn w v n bs) (hn:n≠32) :
 Calls Tryz.prog 12 #[v,t] w fun e w'=>e = .returned (.tuple #[.slice none 0 0,.int .i64 1])∧Below w.heap.size w w':=by
 have ck:=keyOf_bad v n bs w hv hn
 have hz:=zeroK
 obtain ⟨xo,c,rfl,hxn,hnc,hsrc⟩:=hv.src
 clear hv hsrc
 go_enter Tryz.func12,Tryz.ntmps12
 go_wp2_with (first
  | (go_at_call 16;refine ck.mono ?_;clear ck;rintro e w1 ⟨rfl,b⟩;(obtain ⟨V2,hV2,h2,b2,t2⟩:=boxK w1 (kL (.slice none 0 0) (.slice none 0 0) (.slice none 0 0)) rfl);(have H2:=Hid.mk' hV2);clear hV2;(replace b:=below_next b b2);clear b2)
  | (with_reducible (refine id (?_:wpList _ _ _ _ _ _));refine wpList_store_mid rfl 41 _ _ rfl w1.heap.size 0 (kL (.slice none 0 0) (.slice none 0 0) (.slice none 0 0)).toArray rfl rfl t2 (infoKA _ _ _) (oneKy _ _ _ _ _ _ _ _ _) ?_;rw [List.toList_toArray,←H2.out];clear t2 H2))
 go_ret2
 exact ⟨rfl,b⟩
set_option maxRecDepth 20000 in
set_option maxHeartbeats 8000000 in
theorem sign_good {G:World→Prop} {R:List Value→Fp × Fp→Prop} (cx:SgCtx G R) (v t:Value) (n:Nat) (bs ts:Nat→Nat) (hbs:∀ j,bs j<256) (hts:∀ j,ts j<256) (hn:n<1152921504606846976) (w:World) (hv:BytesIn w v 32 bs) (ht:BytesIn w t n ts) (hG:G w) :
 Calls Tryz.prog 12 #[v,t] w fun e w'=>∃ g cap,e = .returned (.tuple #[.slice (some ⟨g,0,none⟩) 64 cap,.int .i64 0])∧64≤cap∧RowAt .u8 w' g 0 64 (sigB bs n ts)∧Below w.heap.size w w':=by
 have ck:=keyOf_good cx.api cx.sha v bs hbs w hv hG
 have hz:=zeroK
 have kk:=cx.api.keep
 obtain ⟨xo,c,rfl,hxn,hnc,hsrc⟩:=hv.src
 obtain ⟨xt,ct,rfl,htn,htc,htsrc⟩:=ht.src
 clear hv hsrc htsrc
 have c1:∀ W gh,RowAt .u8 W gh 32 32 (preB bs)→BytesIn W (.slice xt n ct) n ts→G W→_:=fun W gh hr ht hG=>hashed2 cx (preB_lt bs) hts W (rowB (cap:=32) hr (Nat.le_refl _) (by decide) (by decide)) ht hG (by omega)
 have er:hL (32+n) (cat 32 (preB bs) ts)=rN bs n ts:=rfl
 rw [er] at c1
 have ctm:=fun c hc W g (hr:RowAt .u8 W g 0 32 (byt (rN bs n ts))) hG=>times_sg cx.api c baseP hc (.slice (some ⟨g,0,none⟩) 32 32) (byt (rN bs n ts)) (byt_lt _) W (rowB hr (Nat.le_refl _) (by decide) (by decide)) hG
 rw [rN_of] at ctm
 have ce:=fun c W hc hG=>cx.api.enc c (bP (rN bs n ts)) W hc hG
 have hRB:encB (bP (rN bs n ts))=RB bs n ts:=rfl
 rw [hRB] at ce
 have hbP:emul dE (rN bs n ts) baseP=bP (rN bs n ts):=rfl
 rw [hbP] at ctm
 clear er hRB hbP
 go_enter Tryz.func12,Tryz.ntmps12
 go_upto_region 6 with (first
  | (go_at_call 16;refine ck.mono ?_;clear ck;rintro e w1 ⟨gn,gh,gp,cp,rfl,hrn,hrh,hrp,hcp,b⟩;(obtain ⟨V2,hV2,h2,b2,t2⟩:=boxK w1 (kL (.slice (some ⟨gn,0,none⟩) 32 32) (.slice (some ⟨gh,32,none⟩) 32 32) (.slice (some ⟨gp,0,none⟩) 32 cp)) rfl);(have H2:=Hid.mk' hV2);clear hV2;(replace hrn:=hrn.stillB b2);(replace hrh:=hrh.stillB b2);(replace hrp:=hrp.stillB b2);(replace b:=below_next b b2);clear b2;(replace ht:=ht.still b);(replace hG:=kk _ _ hG b);(have q1:V2.cell? ⟨w1.heap.size,1,none⟩=some (.slice (some ⟨gh,32,none⟩) 32 32):=h2.range 1 _ rfl);(have c1':=c1 V2 gh hrh ht hG);clear c1 hrh)
  | (with_reducible (refine id (?_:wpList _ _ _ _ _ _));refine wpList_store_mid rfl 41 _ _ rfl w1.heap.size 0 (kL (.slice (some ⟨gn,0,none⟩) 32 32) (.slice (some ⟨gh,32,none⟩) 32 32) (.slice (some ⟨gp,0,none⟩) 32 cp)).toArray rfl rfl t2 (infoKA _ _ _) (oneKy _ _ _ _ _ _ _ _ _) ?_;rw [List.toList_toArray,←H2.out];clear t2 H2)
  | (go_at_call 19;refine c1'.mono ?_;clear c1' q1;rintro e w3 ⟨g3,rfl,hg3,hr3,hb3⟩;(replace hrn:=hrn.stillB hb3);(replace hrp:=hrp.stillB hb3);(replace b:=below_next b hb3);(replace ht:=ht.still hb3);(replace hG:=kk _ _ hG hb3);(replace h2:=h2.still hb3);clear hb3;(have cb:=cx.api.base w3 hG))
  | (go_at_call 21;refine cb.mono ?_;clear cb;rintro e w4 ⟨c4,rfl,hc4,hb4⟩;(replace hrn:=hrn.stillB hb4);(replace hrp:=hrp.stillB hb4);(replace hr3:=hr3.stillB hb4);(replace b:=below_next b hb4);(replace ht:=ht.still hb4);(replace hG:=kk _ _ hG hb4);(replace h2:=h2.still hb4);clear hb4;(have ctm':=ctm c4 hc4 w4 g3 hr3 hG);clear ctm)
  | (go_at_call 20;refine ctm'.mono ?_;clear ctm';rintro e w5 ⟨c5,rfl,hc5,hb5⟩;(replace hrn:=hrn.stillB hb5);(replace hrp:=hrp.stillB hb5);(replace hr3:=hr3.stillB hb5);(replace b:=below_next b hb5);(replace ht:=ht.still hb5);(replace hG:=kk _ _ hG hb5);(replace h2:=h2.still hb5);clear hb5 hc4;(have ce':=ce c5 w5 hc5 hG);clear ce)
  | (go_at_call 22;refine ce'.mono ?_;clear ce';rintro e w6 ⟨s6,rfl,hn6,hb6⟩;(replace hrn:=hrn.stillB hb6);(replace hrp:=hrp.stillB hb6);(replace hr3:=hr3.stillB hb6);(replace b:=below_next b hb6);(replace ht:=ht.still hb6);(replace hG:=kk _ _ hG hb6);(replace h2:=h2.still hb6);clear hb6 hc5;(obtain ⟨gr,cr,rfl,hcr,hgr,hrr⟩:=hn6);clear hgr))
 (try dsimp only [Act.put])
 have hdrew:Below w6.heap.size w6 w6.drew:=(Below.refl _ _).drew
 replace h2:=h2.still hdrew
 replace hG:=kk _ _ hG hdrew
 replace ht:=ht.still hdrew
 replace hrn:=hrn.drew
 replace hrp:=hrp.drew
 replace hr3:=hr3.drew
 replace hrr:=hrr.drew
 replace b:=below_next b hdrew
 clear hdrew
 generalize hgk:w1.heap.size=gk at *
 clear hgk
 refine wp_region_noPanic ?_
 refine wp_region_held_drew (S:=fun w'=>Below w6.drew.heap.size w6.drew w') (by kernel_rfl) (Below.refl _ _) (fun hS => ?_)
 generalize w6.drew=V at *
 refine tkH 0 (oN 30 (Op.move (oT 9)) 22 "sign.go:32" #[]) ?v0 hS (Or.inl ⟨by rfl,?h0⟩) ?r0
 case h0 =>
  intro u hu
  go_simp
  try with_reducible rfl
 (try simp only [pS])
 refine tkH 1 (oN 31 (Op.fieldAddr 41 (oT 6) 1) 0 "sign.go:32" #[]) ?v1 hS (Or.inl ⟨by rfl,?h1⟩) ?r1
 case h1 =>
  intro u hu
  go_simp
  try with_reducible rfl
 (try simp only [pS])
 refine tkH 2 (oN 32 (Op.load 22 (oT 31)) 22 "sign.go:32" #[jD 1]) ?v2 hS (Or.inl ⟨by rfl,?h2⟩) ?r2
 case h2 =>
  intro u hu
  have q:=(h2.still hu).range 2 (.slice (some ⟨gp,0,none⟩) 32 cp) rfl
  go_simp
  try with_reducible rfl
 (try simp only [pS])
 refine tkH 3 (oN 33 (Op.move (oT 1)) 22 "sign.go:32" #[]) ?v3 hS (Or.inl ⟨by rfl,?h3⟩) ?r3
 case h3 =>
  intro u hu
  go_simp
  try with_reducible rfl
 (try simp only [pS])
 refine tkH 6 (oN 36 (Op.fieldAddr 41 (oT 6) 0) 0 "sign.go:32" #[]) ?v6 hS (Or.inl ⟨by rfl,?h6⟩) ?r6
 case h6 =>
  intro u hu
  go_simp
  try with_reducible rfl
 (try simp only [pS])
 refine tkH 7 (oN 37 (Op.fieldAddr 39 (oT 36) 0) 0 "sign.go:32" #[jD 6]) ?v7 hS (Or.inl ⟨by rfl,?h7⟩) ?r7
 case h7 =>
  intro u hu
  go_simp
  try with_reducible rfl
 (try simp only [pS])
 refine tkH 8 (oN 38 (Op.load 22 (oT 37)) 22 "sign.go:32" #[jD 7]) ?v8 hS (Or.inl ⟨by rfl,?h8⟩) ?r8
 case h8 =>
  intro u hu
  have q:=(h2.still hu).range 0 (.slice (some ⟨gn,0,none⟩) 32 32) rfl
  go_simp
  try with_reducible rfl
 (try simp only [pS])
 refine tkH 9 (oN 39 (Op.move (oT 8)) 22 "sign.go:32" #[]) ?v9 hS (Or.inl ⟨by rfl,?h9⟩) ?r9
 case h9 =>
  intro u hu
  go_simp
  try with_reducible rfl
 (try simp only [pS])
 have c7:=hashed3 cx (encB_lt _) (encB_lt _) hts V (rowB hrr (Nat.le_refl _) (by decide) hcr) (rowB hrp (Nat.le_refl _) (by decide) hcp) ht hG (by omega)
 have ek:hL (32+32+n) (cat (32+32) (cat 32 (encB (bP (rN bs n ts))) (encB (bP (aN bs)))) ts)=kN (RB bs n ts) (pubB bs) n ts:=rfl
 rw [ek] at c7
 clear ek
 refine wpAnyH_ready (rs:=[4]) (by kernel_rfl) (by simp) ?_
 refine AllReadyH.cons (o:=oN 34 (Op.buildSlice 76 3 #[(0,oT 30),(1,oT 32),(2,oT 33)]) 76 "sign.go:32" #[jD 0,jD 2,jD 3]) rfl (fun K hK => ?_) AllReadyH.nil
 go_simp
 refine hK.out _ _ ((Below.refl _ _).alloc (Nat.le_refl _) _) (fun h => ?_)
 clear h hK K
 (try simp only [pS])
 refine callH 5 (oN 35 (cF1 19 #[oT 34] #[76]) 22 "sign.go:32" #[jD 4]) c7 ?_
 rintro e w7 ⟨g7,rfl,hg7,hr7,hb7⟩
 replace hS:=below_next hS hb7
 replace hrn:=hrn.stillB hb7
 replace hr3:=hr3.stillB hb7
 replace hrr:=hrr.stillB hb7
 replace hG:=kk _ _ hG hb7
 refine ⟨_,rfl,hS,?_⟩
 (try simp only [pS])
 have c8:=muladd_good (.slice (some ⟨g7,0,none⟩) 32 32) (.slice (some ⟨gn,0,none⟩) 32 32) (.slice (some ⟨g3,0,none⟩) 32 32) (byt (kN (RB bs n ts) (pubB bs) n ts)) (aB bs) (byt (rN bs n ts)) (byt_lt _) (aB_lt bs) (byt_lt _) w7 (cx.ord _ hG) (rowB hr7 (Nat.le_refl _) (by decide) (by decide)) (rowB hrn (Nat.le_refl _) (by decide) (by decide)) (rowB hr3 (Nat.le_refl _) (by decide) (by decide))
 rw [kN_of,rN_of] at c8
 have es:(rN bs n ts+kN (RB bs n ts) (pubB bs) n ts*ofB (aB bs) 32)%oL=SN bs n ts:=rfl
 rw [es] at c8
 clear es hg7
 refine callH 10 (oN 40 (cF1 23 #[oT 35,oT 38,oT 39] #[22,22,22]) 25 "sign.go:32" #[jD 5,jD 8,jD 9,jC 5]) c8 ?_
 rintro e w8 ⟨s8,rfl,⟨g8,rfl,hg8,hr8⟩,hb8⟩
 replace hS:=below_next hS hb8
 replace hrr:=hrr.stillB hb8
 refine ⟨_,rfl,hS,?_⟩
 (try simp only [pS])
 refine tkH 11 (oN 29 (Op.move (oT 40)) 25 "sign.go:32" #[jD 10]) ?v11 hS (Or.inl ⟨by rfl,?h11⟩) ?r11
 case h11 =>
  intro u hu
  go_simp
  try with_reducible rfl
 (try simp only [pS])
 refine tkH 12 (oN 41 (Op.extract (oT 29) 0) 22 "sign.go:32" #[jD 11]) ?v12 hS (Or.inl ⟨by rfl,?h12⟩) ?r12
 case h12 =>
  intro u hu
  go_simp
  try with_reducible rfl
 (try simp only [pS])
 refine tkH 13 (oN 42 (Op.extract (oT 29) 1) 24 "sign.go:32" #[jD 11,jO 14]) ?v13 hS (Or.inl ⟨by rfl,?h13⟩) ?r13
 case h13 =>
  intro u hu
  go_simp
  try with_reducible rfl
 (try simp only [pS])
 refine tkH 14 (oN 10 (Op.assign (oT 41)) 22 "sign.go:32" #[jD 12,jC 10,jP 0,jP 1,jP 2,jP 3,jP 4,jP 5,jP 6,jP 7,jP 8,jP 9,jP 10,jP 11,jP 12,jT 13]) ?v14 hS (Or.inl ⟨by rfl,?h14⟩) ?r14
 case h14 =>
  intro u hu
  go_simp
  try with_reducible rfl
 (try simp only [pS])
 refine tkH 15 (oN 7 (Op.assign (oT 42)) 24 "sign.go:32" #[jD 13,jC 14,jP 0,jP 1,jP 2,jP 3,jP 4,jP 5,jP 6,jP 7,jP 8,jP 9,jP 10,jP 11,jP 12,jP 13,jP 14]) ?v15 hS (Or.inl ⟨by rfl,?h15⟩) ?r15
 case h15 =>
  intro u hu
  go_simp
  try with_reducible rfl
 (try simp only [pS])
 refine wpAnyH_done (by kernel_rfl) ?_ _
 refine NoPanic.normal ?_
 replace b:=b.trans (hS.mono b.size)
 have c9:=concat2 (encB_lt _) (byt_lt _) w8 (rowB hrr (Nat.le_refl _) (by decide) hcr) (rowB (cap:=32) hr8 (Nat.le_refl _) (by decide) (by decide))
 have e9:cat 32 (encB (bP (rN bs n ts))) (byt (SN bs n ts))=sigB bs n ts:=rfl
 rw [e9] at c9
 clear e9 c8 c7 hb7 hb8
 go_wp2_with (go_at_call 24;refine c9.mono ?_;clear c9;rintro e w9 ⟨g9,cap9,rfl,hc9,hg9,hr9,hb9⟩)
 go_ret2
 exact ⟨g9,cap9,rfl,hc9,hr9,below_next b hb9⟩
end Go.Proofs.YtdgkmloabificaaGreatDoor
