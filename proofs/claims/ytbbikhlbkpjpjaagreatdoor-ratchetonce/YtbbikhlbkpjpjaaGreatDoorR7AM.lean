/- What the proof stands on: R7A, R7B, ZD, ZFl, R7C, R7D. -/
import Derived.Test.YtbbikhlbkpjpjaaGreatDoorL5AM
import Derived.Test.YtbbikhlbkpjpjaaGreatDoorQAppM
import Derived.Test.YtbbikhlbkpjpjaaGreatDoorR8TM
namespace Go.Proofs.YtbbikhlbkpjpjaaGreatDoor
open Go.RowKit
def sdV (X:Nat→Nat):Value := .agg (ints .u8 32 X).toArray
theorem ints_size (K:IntKind) (n:Nat) (X:Nat→Nat):(ints K n X).toArray.size=n:=by rw [List.size_toArray,ints_len]
theorem oneU7 (n:Nat) (X:Nat→Nat):(ints .u8 n X).toArray.all (·.oneCell')=true:=all_oneCell_toArray (ints_one .u8 n X)
theorem infoSd (X:Nat→Nat):(Tryz.prog.info? 60).map (·.size)=some (ints .u8 32 X).length:=by rw [ints_len];kernel_rfl
theorem infoSdA (X:Nat→Nat):(Tryz.prog.info? 60).map (·.size)=some (ints .u8 32 X).toArray.size:=by rw [ints_size];kernel_rfl
theorem row_bytes {w:World} {g o n:Nat} {X:Nat→Nat} (h:w.rangeAt g o (ints .u8 n X)) (hn:0<n):BytesIn w (.slice (some ⟨g,o,none⟩) n n) n X :=
 .inr ⟨g,o,n,rfl,block_lt_of_cell (h 0 _ (ints_at .u8 n X 0 hn)),Nat.le_refl _,fun j hj=>h j _ (ints_at .u8 n X j hj)⟩
theorem bytes_row {w:World} {x:Option Addr} {n c:Nat} {X:Nat→Nat} (h:BytesIn w (.slice x n c) n X) (hn:0<n):∃ g o,x=some ⟨g,o,none⟩∧g<w.heap.size∧n≤c∧w.rangeAt g o (ints .u8 n X):=by
 rcases h with ⟨y,e,e0⟩ | ⟨g,o,c',e,hl,hc,hr⟩
 · omega
 · injection e with e1 e2 e3
   subst e1 e3
   refine ⟨g,o,rfl,hl,hc,fun j v hv => ?_⟩
   have hj:j<n:=by have:=(List.getElem?_eq_some_iff.1 hv).1;rwa [ints_len] at this
   rw [ints_at .u8 n X j hj] at hv
   cases hv
   exact hr j hj
theorem sdExpand_any (X:Nat→Nat) (hX:∀ j,X j<256) (l:List Nat) (h:∀ x,x∈l→x<256) (hl:l.length≤65528) (cv:Value) (n:Nat) (bs:Nat→Nat) (hbs:∀ j,bs j<256) (hn:n≤65528) (N:Nat) (hN:N≤8160) (w:World) (hT:TabAt w) (hc:BytesIn w cv n bs) :
 Calls Tryz.prog 62 #[sdV X,.string (strL l),cv,.int .i64 N] w fun e w'=>∃ x c,e = .returned (.slice x N c)∧BytesIn w' (.slice x N c) N (exN 32 X l n bs N)∧Below w.heap.size w w':=by
 unfold sdV
 have b1:Below w.heap.size w (w.alloc (.cells (ints .u8 32 X).toArray 60)):=(Below.refl _ _).alloc (Nat.le_refl _) _
 have k1:=RW.fresh w (ints .u8 32 X) 60
 have y1:=row_bytes k1.range (by decide)
 have hx:=cExpand_good l h hl (.slice (some ⟨w.heap.size,0,none⟩) 32 32) cv 32 n X bs hX hbs (by decide) hn N hN _ (hT.still b1).h y1 (hc.keep b1)
 obtain ⟨S,hS⟩:∃ S,S=strL l:=⟨_,rfl⟩
 obtain ⟨E,hE⟩:∃ E,E=exN 32 X l n bs N:=⟨_,rfl⟩
 rw [←hS,←hE] at hx
 rw [←hS,←hE]
 generalize ints .u8 32 X=L at *
 clear hS hE hT hc k1 y1
 go_enter Tryz.func62,Tryz.ntmps62
 go_wp2_with (go_at_call 73;refine hx.mono ?_;clear hx;rintro e w2 ⟨s2,rfl,B2,hb2⟩;(obtain ⟨x2,c2,e2,-⟩:=B2.src);subst e2)
 go_ret
 exact ⟨_,_,rfl,B2,below_next b1 hb2⟩
def lTree:List Nat:=[116,114,101,101]
def lHan:List Nat:=[104,97,110,100,115,104,97,107,101]
def lApp:List Nat:=[97,112,112,108,105,99,97,116,105,111,110]
def halfS (X:Nat→Nat) (l:List Nat):Nat→Nat:=exN 32 X lTree l.length (litB l) 32
def fstS (X:Nat→Nat) (t:Bool):Nat→Nat:=exN 32 X (if t then lApp else lHan) 0 lZ 32
theorem zb_lit:zb 32=#[.int .u8 0,.int .u8 0,.int .u8 0,.int .u8 0,.int .u8 0,.int .u8 0,.int .u8 0,.int .u8 0,.int .u8 0,.int .u8 0,.int .u8 0,.int .u8 0,.int .u8 0,.int .u8 0,.int .u8 0,.int .u8 0,.int .u8 0,.int .u8 0,.int .u8 0,.int .u8 0,.int .u8 0,.int .u8 0,.int .u8 0,.int .u8 0,.int .u8 0,.int .u8 0,.int .u8 0,.int .u8 0,.int .u8 0,.int .u8 0,.int .u8 0,.int .u8 0]:=rfl
theorem zb_32:(zb 32)=(ints .u8 32 lZ).toArray:=by
 apply Array.ext
 · rw [ints_size];rfl
 · intro j h1 h2
   have hj:j<32:=h1
   have e1:=zb_at 32 j hj
   have e2:(ints .u8 32 lZ).toArray[j]? = some (.int .u8 (lZ j)):=by rw [List.getElem?_toArray,ints_at _ _ _ j hj]
   rw [Array.getElem?_eq_getElem h1] at e1
   rw [Array.getElem?_eq_getElem h2] at e2
   exact (Option.some.inj e1).trans (Option.some.inj e2).symm
theorem arr_at (w:World) (g o c:Nat):Sem.run Tryz.prog (Instr.arrayAt 60 (.slice (some ⟨g,o,none⟩) 32 c)) w = .ok (.pointer (some ⟨g,o,none⟩)) w:=by kernel_rfl
set_option maxRecDepth 20000 in
set_option maxHeartbeats 4000000 in
theorem sdHalf_any (X:Nat→Nat) (hX:∀ j,X j<256) (l:List Nat) (h:∀ x,x∈l→x<256) (hl:l.length≤65528) (w:World) (hT:TabAt w) :
 Calls Tryz.prog 66 #[sdV X,.string (strL l)] w fun e w'=>e = .returned (sdV (halfS X l))∧Below w.heap.size w w':=by
 obtain ⟨W1,hW1⟩:∃ W,W=w.alloc (.cells (ints .u8 32 X).toArray 60):=⟨_,rfl⟩
 have b1:Below w.heap.size w W1:=by rw [hW1];exact (Below.refl _ _).alloc (Nat.le_refl _) _
 have k1:RW W1 w.heap.size 0 (ints .u8 32 X):=by rw [hW1];exact RW.fresh w _ _
 have s1:W1.heap.size=w.heap.size+1:=by rw [hW1];simp
 obtain ⟨W2,hW2⟩:∃ W,W=W1.alloc (.cells (zb 32) 60):=⟨_,rfl⟩
 have b2:Below W1.heap.size W1 W2:=by rw [hW2];exact (Below.refl _ _).alloc (Nat.le_refl _) _
 have k2:RW W2 W1.heap.size 0 (ints .u8 32 lZ):=by rw [hW2,zb_32];exact RW.fresh W1 _ _
 replace k1:=k1.still b2
 have bA:=below_next b1 b2
 obtain ⟨c,W3,hc,hB,hb3⟩:=conv_label W2 l h
 replace k2:=k2.still hb3
 have bB:=below_next bA hb3
 have cx:=sdExpand_any X hX lTree (by decide) (by decide) (.slice (some ⟨W2.heap.size,0,none⟩) l.length c) l.length (litB l) (litB_lt h) hl 32 (by decide) W3 (hT.still bB) hB
 replace cx:Calls Tryz.prog 62 #[sdV X,.string { data:=#[116,114,101,101] },.slice (some ⟨W2.heap.size,0,none⟩) l.length c,.int .i64 32] W3 _:=cx
 have eH:halfS X l=exN 32 X lTree l.length (litB l) 32:=rfl
 rw [eH]
 generalize exN 32 X lTree l.length (litB l) 32=E at *
 generalize strL l=S at *
 generalize l.length=n at *
 rw [s1] at k2
 have HW1:=Hid.mk' hW1
 have HW2:=Hid.mk' hW2
 have hiX:=infoSd X
 have hiE:=infoSd E
 have hiEA:=infoSdA E
 have hoE:=oneU7 32 E
 have hsE:(ints .u8 32 E).toArray.size=32:=ints_size _ _ _
 have hlZ:(ints .u8 32 lZ).length=32:=ints_len _ _ _
 have hlE:(ints .u8 32 E).length=32:=ints_len _ _ _
 unfold sdV at *
 clear hW1 hW2 hT hX h hl hB eH bA hb3 b1 b2
 go_enter Tryz.func66,Tryz.ntmps66
 go_upto_region 1 with (fail)
 have e2:=HW2.out
 rw [zb_lit] at e2
 rw [←HW1.out,←e2]
 clear e2
 clear HW1 HW2
 go_wp2_with (first
  | rw [arr_at]
  | (refine wpList_load_mid rfl 60 (.tmp 2) rfl w.heap.size 0 rfl (ints .u8 32 X) _ k1.range Tryz.underlying60 rfl hiX ?_)
  | rw [hc]
  | (go_at_call 62;refine cx.mono ?_;clear cx;rintro e w4 ⟨x4,c4,rfl,B4,hb4⟩;(obtain ⟨g4,o4,e4,hg4,hc4,r4⟩:=bytes_row B4 (by decide));subst e4;have k4:=k2.still hb4;have b4:=below_next bB hb4;have th4:w4.there (w.heap.size+1) 0 (ints .u8 32 E).toArray.size:=(by rw [hsE,←hlZ];exact k4.there))
  | (refine wpList_load_mid rfl 60 (.tmp 9) rfl g4 o4 rfl (ints .u8 32 E) _ r4 Tryz.underlying60 rfl hiE ?_)
  | (refine wpList_store_mid rfl 60 _ _ rfl (w.heap.size+1) 0 (ints .u8 32 E).toArray rfl rfl th4 hiEA hoE ?_))
 have rz:=k4.stored (ints .u8 32 E) (by rw [hlE,hlZ])
 exact bodyPost_ret (results_cell_mid Tryz.results66 _ _ (w.heap.size+1) 0 (ints .u8 32 E) _ rfl rz.range Tryz.underlying60 rfl hiE) rfl ⟨rfl,below_setCells (Nat.le_succ _) _ 0 _ b4⟩
end Go.Proofs.YtbbikhlbkpjpjaaGreatDoor
namespace Go.Proofs.YtbbikhlbkpjpjaaGreatDoor
open Go.RowKit
def rtL (g:Nat) (X:Nat→Nat):List Value := .int .i64 (g:Int) :: ints .u8 32 X
def rtV (g:Nat) (X:Nat→Nat):Value := .agg (rtL g X).toArray
def kyL (A B:Nat→Nat):List Value:=ints .u8 16 A ++ ints .u8 12 B
def kyV (A B:Nat→Nat):Value := .agg (kyL A B).toArray
theorem rtL_len (g:Nat) (X:Nat→Nat):(rtL g X).length=33:=by simp [rtL,ints_len]
theorem infoRt (g:Nat) (X:Nat→Nat):(Tryz.prog.info? 79).map (·.size)=some (rtL g X).length:=by rw [rtL_len];kernel_rfl
theorem rt_seed {w:World} {b o:Nat} {g:Nat} {X:Nat→Nat} (h:w.rangeAt b o (rtL g X)):w.cell? ⟨b,o,none⟩=some (.int .i64 (g:Int))∧w.rangeAt b (o+1) (ints .u8 32 X):=by
 refine ⟨h 0 _ rfl,fun j v hv => ?_⟩
 have:=h (j+1) v (by simpa [rtL] using hv)
 rw [show o+(j+1)=o+1+j by omega] at this
 exact this
def rtE (g:Nat) (X:Nat→Nat) (l:List Nat) (N:Nat):Nat→Nat:=exN 32 X l 4 (beN g 4) N
theorem infoRtA (g:Nat) (X:Nat→Nat):(Tryz.prog.info? 79).map (·.size)=some (rtL g X).toArray.size:=by rw [List.size_toArray,rtL_len];kernel_rfl
theorem oneRt (g:Nat) (X:Nat→Nat):(rtL g X).toArray.all (·.oneCell')=true:=by
 rw [List.all_toArray]
 unfold rtL
 rw [List.all_cons]
 have:=oneU7 32 X
 rw [List.all_toArray] at this
 rw [this];rfl
theorem own_four (base:Nat) (w:World) (a b c d:Nat) (h:base≤w.heap.size):Own base (w.alloc (.cells #[.int .u8 a,.int .u8 b,.int .u8 c,.int .u8 d] 5)) (.slice (some ⟨w.heap.size,0,none⟩) 4 4) 4 (litB [a,b,c,d]) :=
 World.ownsRow_lit w #[.int .u8 a,.int .u8 b,.int .u8 c,.int .u8 d] 4 h (by decide) rfl
theorem four_be (g j:Nat) (hj:j<4):litB [g / 2 ^ 24%256,g / 2 ^ 16%256,g / 2 ^ 8%256,g%256] j=beN g 4 j:=by
 match j,hj with
 | 0,_=>rfl
 | 1,_=>rfl
 | 2,_=>rfl
 | 3,_=>show g%256=g / 2 ^ 0%256;simp
set_option maxRecDepth 20000 in
set_option maxHeartbeats 4000000 in
theorem rtExpand_any (g:Nat) (hg:g<4294967296) (X:Nat→Nat) (hX:∀ j,X j<256) (l:List Nat) (h:∀ x,x∈l→x<256) (hl:l.length≤65528) (N:Nat) (hN:N≤8160) (w:World) (hT:TabAt w) :
 Calls Tryz.prog 51 #[rtV g X,.string (strL l),.int .i64 N] w fun e w'=>∃ x c,e = .returned (.slice x N c)∧BytesIn w' (.slice x N c) N (rtE g X l N)∧Below w.heap.size w w':=by
 obtain ⟨W1,hW1⟩:∃ W,W=w.alloc (.cells (rtL g X).toArray 79):=⟨_,rfl⟩
 have b1:Below w.heap.size w W1:=by rw [hW1];exact (Below.refl _ _).alloc (Nat.le_refl _) _
 have k1:RW W1 w.heap.size 0 (rtL g X):=by rw [hW1];exact RW.fresh w _ _
 obtain ⟨c1,r1⟩:=rt_seed k1.range
 obtain ⟨W2,hW2⟩:∃ W,W=W1.alloc (.cells #[.int .u8 ((g / 2 ^ 24%256:Nat):Int),.int .u8 ((g / 2 ^ 16%256:Nat):Int),.int .u8 ((g / 2 ^ 8%256:Nat):Int),.int .u8 ((g%256:Nat):Int)] 5):=⟨_,rfl⟩
 have o2:Own W1.heap.size W2 (.slice (some ⟨W1.heap.size,0,none⟩) 4 4) 4 (beN g 4):=by rw [hW2];exact (own_four _ W1 _ _ _ _ (Nat.le_refl _)).congr (four_be g)
 have b2:Below W1.heap.size W1 W2:=by rw [hW2];exact (Below.refl _ _).alloc (Nat.le_refl _) _
 have bA:=below_next b1 b2
 have cx:=sdExpand_any X hX l h hl _ 4 (beN g 4) (fun j=>beN_lt _ _ j) (by decide) N hN W2 (hT.still bA) o2.bytesIn
 have eE:rtE g X l N=exN 32 X l 4 (beN g 4) N:=rfl
 rw [eE]
 generalize exN 32 X l 4 (beN g 4) N=E at *
 generalize strL l=S at *
 have HW1:=Hid.mk' hW1
 have hiX:=infoSd X
 unfold sdV at *
 unfold rtV at *
 have e2:W1.alloc (.cells #[.int .u8 ((g:Int) / 16777216),.int .u8 ((g:Int) / 65536%256),.int .u8 ((g:Int) / 256%256),.int .u8 ((g:Int)%256)] 5)=W2:=by
  rw [hW2,show (g:Int) / 16777216=((g / 2 ^ 24%256:Nat):Int) by omega,show (g:Int) / 65536%256=((g / 2 ^ 16%256:Nat):Int) by omega,show (g:Int) / 256%256=((g / 2 ^ 8%256:Nat):Int) by omega,show (g:Int)%256=((g%256:Nat):Int) by omega]
 have E2:=Hid.mk' e2
 generalize rtL g X=RL at *
 generalize ints .u8 32 X=XL at *
 clear hW1 hW2 hT hX h hl hN eE o2 b1 b2 k1 e2
 go_enter Tryz.func51,Tryz.ntmps51
 go_upto_region 1 with (fail)
 rw [←HW1.out]
 go_upto_region 2 with (fail)
 go_wp2_with (first
  | (refine wpList_load_mid rfl 60 (.tmp 10) rfl w.heap.size (0+1) rfl XL _ r1 Tryz.underlying60 rfl hiX ?_)
  | (rw [E2.out];go_at_call 62;refine cx.mono ?_;clear cx;rintro e w3 ⟨x3,c3,rfl,B3,hb3⟩))
 go_ret
 exact ⟨_,_,rfl,B3,below_next bA hb3⟩
def rKey:List Nat:=[107,101,121]
def rNon:List Nat:=[110,111,110,99,101]
def rSec:List Nat:=[115,101,99,114,101,116]
theorem rtE_lt (g:Nat) (X:Nat→Nat) (l:List Nat) (N j:Nat):rtE g X l N j<256:=exN_lt _ _ _ _ _ _ j
end Go.Proofs.YtbbikhlbkpjpjaaGreatDoor
namespace Go.Proofs.YtbbikhlbkpjpjaaGreatDoor
open Go.RowKit
section
variable {P:Program} {md:Region.Mode} {ops:Array Oper} {Q:Exit→Act→World→Prop} {S:World→Prop} {fuel:Nat} {listed:Array Bool} {a:Act} {w:World}
theorem aL {i:Nat} {rs:List Nat} (oi:Oper) (ty k:Nat) {g off:Nat} {cs:List Value} {d:TypeDesc} (r:RW w g off cs) (hS:S w) (hu:P.underlying ty=some d) (hin:(P.info? ty).map (·.size)=some cs.length) (h:wpAnyH P md ops Q S fuel (listed.setIfInBounds i true) (a.put oi.dst (.agg cs.toArray)) w) (hs:AllReadyH P md ops Q S fuel listed a w rs)
 (hd:d.isRow=true:=by rfl) (ho:oi.op = .load ty (.tmp k):=by rfl) (hx:a.eval (.tmp k) = .pointer (some ⟨g,off,none⟩):=by rfl) (hi:ops[i]? = some oi:=by rfl) (hw:Region.wanted oi (yielded ops a.tmps)=true:=by rfl):AllReadyH P md ops Q S fuel listed a w (i :: rs):=by
 refine AllReadyH.cons hi (fun K hK => ?_) hs
 rw [if_pos hw]
 exact wp_load_mid ty _ ho g off hx cs d r.range hu hd hin (hK.out _ _ hS (fun _=>h))
theorem aT {i:Nat} {rs:List Nat} (oi:Oper) (ty x y:Nat) {g off:Nat} {cs:List Value} (ds:List Value) (r:RW w g off cs) (hl:ds.length=cs.length) (hk:S (w.setCells g off ds)) (hin:(P.info? ty).map (·.size)=some ds.toArray.size) (h1:ds.toArray.all (·.oneCell')=true) (h:RW (w.setCells g off ds) g off ds→wpAnyH P md ops Q S fuel (listed.setIfInBounds i true) (a.put oi.dst undef) (w.setCells g off ds)) (hs:AllReadyH P md ops Q S fuel listed a w rs)
 (ho:oi.op = .store ty (.tmp x) (.tmp y):=by rfl) (hx:a.eval (.tmp x) = .pointer (some ⟨g,off,none⟩):=by rfl) (hy:a.eval (.tmp y) = .agg ds.toArray:=by rfl) (hi:ops[i]? = some oi:=by rfl) (hw:Region.wanted oi (yielded ops a.tmps)=true:=by rfl):AllReadyH P md ops Q S fuel listed a w (i :: rs):=by
 refine AllReadyH.cons hi (fun K hK => ?_) hs
 rw [if_pos hw]
 exact wp_store_mid ty _ _ ho g off ds.toArray hx hy (by rw [List.size_toArray,hl];exact r.there) hin h1 (hK.out _ _ hk (fun _=>h (r.stored ds hl)))
end
end Go.Proofs.YtbbikhlbkpjpjaaGreatDoor
namespace Go.Proofs.YtbbikhlbkpjpjaaGreatDoor
open Go.RowKit
section
variable {P:Program} {md:Region.Mode} {ops:Array Oper} {Q:Exit→Act→World→Prop} {S:World→Prop} {fuel:Nat} {listed:Array Bool} {a:Act} {w:World}
def LastQ (P:Program) (ops:Array Oper) (Q:Exit→Act→World→Prop) (t:Nat):Exit→Act→World→Prop
 | .normal,a,w=>wpOp P ops Q t (Q .normal) a w
 | e,a,w=>Q e a w
def backward (md:Region.Mode) (ops:Array Oper):Bool:=(List.range ops.size).all fun i=>match ops[i]? with
 | none=>true
 | some o=>o.after.toList.all fun e=>!Region.binds md e || decide (e.on<i)
def waitsAll (md:Region.Mode) (ops:Array Oper) (t:Nat):Bool:=match ops[t]? with
 | none=>false
 | some o=>(List.range ops.size).all fun i=>decide (i=t) || o.after.toList.any fun e=>Region.binds md e && decide (e.on=i)
theorem backward_at (h:backward md ops=true) {i:Nat} {o:Oper} (ho:ops[i]? = some o) {e:Edge} (he:e∈o.after) (hb:Region.binds md e=true):e.on<i:=by
 have h1:=List.all_eq_true.1 h i (List.mem_range.2 (Array.getElem?_eq_some_iff.1 ho).1)
 rw [ho] at h1
 have h2:=List.all_eq_true.1 h1 e (Array.mem_toList_iff.2 he)
 rw [hb] at h2
 simpa using h2
theorem waitsAll_at {t:Nat} (h:waitsAll md ops t=true):∃ o,ops[t]? = some o∧∀ i,i<ops.size→i≠t→∃ e∈o.after,Region.binds md e=true∧e.on=i:=by
 unfold waitsAll at h
 split at h
 · cases h
 · rename_i o ho
   refine ⟨o,ho,fun i hi hne => ?_⟩
   have h1:=List.all_eq_true.1 h i (List.mem_range.2 hi)
   rw [decide_eq_false hne,Bool.false_or] at h1
   obtain ⟨e,he,h2⟩:=List.any_eq_true.1 h1
   rw [Bool.and_eq_true,decide_eq_true_eq] at h2
   exact ⟨e,Array.mem_toList_iff.1 he,h2.1,h2.2⟩
theorem wpOp_swap {Q':Exit→Act→World→Prop} (hp:∀ c a w,Q' (.panic c) a w→Q (.panic c) a w) (hl:LetsOut Q'→LetsOut Q) {i:Nat} {K:Act→World→Prop} (hh:wpOp P ops Q' i K a w):wpOp P ops Q i K a w:=by
 unfold wpOp at *
 split
 · simpa [*] using hh
 · rename_i o ho
   simp only [ho] at hh
   split
   · rename_i hw
     simp only [hw,if_true] at hh
     refine hh.imp (fun hh => ?_) (fun h=>⟨h.1,hl h.2⟩)
     unfold Oper.wp at *
     generalize (execOp a.eval o).run P w=r at *
     cases r with
     | ok n w' =>
      cases n <;> simp only [Oper.upon] at hh ⊢ <;>
       first
        | exact hh
        | exact Calls.mono hh (fun e w'' he=>by cases e <;> first | exact he | exact hp _ _ _ he | exact hl he)
     | halt x w'=>cases x <;> simp only [Oper.upon] at hh ⊢ <;> first | exact hh | exact hp _ _ _ hh
   · rename_i hw;simp only [hw] at hh;exact hh
theorem wpAny_end (hr:Region.ready md ops listed=[]) (h:Q .normal a w):∀ fuel,wpAny P md ops Q fuel listed a w
 | 0=>⟨hr,h⟩
 | _+1=>⟨fun _=>h,by rw [hr];simp⟩
theorem all_listed {t:Nat} (hb:backward md ops=true) (hz:listed.size=ops.size) (hr:Region.ready md ops (listed.setIfInBounds t true)=[]):∀ i,i<ops.size→i≠t→listed.getD i true=true:=by
 intro i
 induction i using Nat.strongRecOn with
 | ind i ih =>
  intro hi hne
  cases hc:listed.getD i true with
  | true=>rfl
  | false =>
   have hmem:i∈Region.ready md ops (listed.setIfInBounds t true):=by
    rw [mem_ready]
    refine ⟨by rw [getD_set_ne true (Ne.symm hne)];exact hc,ops[i],Array.getElem?_eq_getElem hi,fun e he hbe => ?_⟩
    have hlt:=backward_at hb (Array.getElem?_eq_getElem hi) he hbe
    by_cases het:e.on=t
    · rw [het]
      have:t<listed.size:=by omega
      simp [this]
    · have h1:=ih e.on hlt (by omega) het
      have hs:e.on<listed.size:=by omega
      rw [getD_set_ne false (Ne.symm het)]
      simp [hs] at h1 ⊢
      exact h1
   rw [hr] at hmem
   cases hmem
theorem wpAny_last {t:Nat} (ht:t<ops.size) (hb:backward md ops=true) (hw:waitsAll md ops t=true):∀ (fuel:Nat) (listed:Array Bool) (a:Act) (w:World),listed.size=ops.size→listed.getD t true=false →
 wpAny P md ops (LastQ P ops Q t) fuel (listed.setIfInBounds t true) a w→wpAny P md ops Q (fuel+1) listed a w:=by
 intro fuel
 induction fuel with
 | zero =>
  intro listed a w hz hlt h
  have hall:=all_listed hb hz h.1
  have hq:wpOp P ops Q t (Q .normal) a w:=h.2
  obtain ⟨o,ho,-⟩:=waitsAll_at hw
  have hmt:t∈Region.ready md ops listed:=mem_ready.2 ⟨hlt,o,ho,fun e he hbe=>by
   have h1:=backward_at hb ho he hbe
   have h2:=hall e.on (by omega) (by omega)
   have hs:e.on<listed.size:=by omega
   simp [hs] at h2 ⊢
   exact h2⟩
  refine ⟨fun h0=>(by rw [h0] at hmt;cases hmt),fun i hi => ?_⟩
  by_cases hit:i=t
  · subst hit
    exact wpOp_mono (fun a' w' h'=>wpAny_end h.1 h' _) hq
  · have:=ready_mono hi hit
    rw [h.1] at this
    cases this
 | succ fuel ih =>
  intro listed a w hz hlt h
  by_cases hr:Region.ready md ops (listed.setIfInBounds t true)=[]
  · have hall:=all_listed hb hz hr
    have hq:wpOp P ops Q t (Q .normal) a w:=h.1 hr
    obtain ⟨o,ho,-⟩:=waitsAll_at hw
    have hmt:t∈Region.ready md ops listed:=mem_ready.2 ⟨hlt,o,ho,fun e he hbe=>by
     have h1:=backward_at hb ho he hbe
     have h2:=hall e.on (by omega) (by omega)
     have hs:e.on<listed.size:=by omega
     simp [hs] at h2 ⊢
     exact h2⟩
    refine ⟨fun h0=>(by rw [h0] at hmt;cases hmt),fun i hi => ?_⟩
    by_cases hit:i=t
    · subst hit
      exact wpOp_mono (fun a' w' h'=>wpAny_end hr h' _) hq
    · have:=ready_mono hi hit
      rw [hr] at this
      cases this
  · obtain ⟨o,ho,hwt⟩:=waitsAll_at hw
    obtain ⟨j,hj⟩:=List.exists_mem_of_ne_nil _ hr
    obtain ⟨hju,oj,hoj,hjall⟩:=mem_ready.1 hj
    have hjs:j<ops.size:=(Array.getElem?_eq_some_iff.1 hoj).1
    have hjt:j≠t:=fun e=>by
     subst e
     have:j<listed.size:=by omega
     simp [this] at hju
    have hnt:t ∉ Region.ready md ops listed:=fun hm=>by
     obtain ⟨-,o',ho',hall⟩:=mem_ready.1 hm
     rw [ho] at ho'
     cases ho'
     obtain ⟨e,he,hbe,hej⟩:=hwt j hjs hjt
     have h1:=hall e he hbe
     rw [hej] at h1
     rw [getD_set_ne true (Ne.symm hjt)] at hju
     have hs:j<listed.size:=by omega
     simp [hs] at h1 hju
     rw [h1] at hju
     cases hju
    have hsome:∃ i,i∈Region.ready md ops listed:=by
     have hex:∃ i,i<ops.size∧i≠t∧listed.getD i true=false:=⟨j,hjs,hjt,by rwa [getD_set_ne true (Ne.symm hjt)] at hju⟩
     refine Classical.byContradiction fun hno => ?_
     obtain ⟨i,hi,hit,hiu⟩:=hex
     have hall:∀ i,i<ops.size→i≠t→listed.getD i true=true:=by
      intro i
      induction i using Nat.strongRecOn with
      | ind i ihh =>
       intro hi hne
       cases hc:listed.getD i true with
       | true=>rfl
       | false =>
        exfalso
        by_cases hti:∃ e∈ops[i].after,Region.binds md e=true∧e.on=t
        · obtain ⟨e1,he1,hb1,h1t⟩:=hti
          obtain ⟨e2,he2,hb2,h2i⟩:=hwt i hi hne
          have g1:=backward_at hb (Array.getElem?_eq_getElem hi) he1 hb1
          have g2:=backward_at hb ho he2 hb2
          omega
        · refine hno ⟨i,mem_ready.2 ⟨hc,ops[i],Array.getElem?_eq_getElem hi,fun e he hbe => ?_⟩⟩
          have hlt':=backward_at hb (Array.getElem?_eq_getElem hi) he hbe
          have h1:=ihh e.on hlt' (by omega) (fun het=>hti ⟨e,he,hbe,het⟩)
          have hs:e.on<listed.size:=by omega
          simp [hs] at h1 ⊢
          exact h1
     rw [hall i hi hit] at hiu
     cases hiu
    refine ⟨fun h0=>(by obtain ⟨i,hi⟩:=hsome;rw [h0] at hi;cases hi),fun i hi => ?_⟩
    have hit:i≠t:=fun e=>hnt (e ▸ hi)
    have h1:=h.2 i (ready_mono hi hit)
    refine wpOp_swap (Q':=LastQ P ops Q t) (fun _ _ _ h=>h) (fun h=>h) (wpOp_mono (fun a' w' h' => ?_) h1)
    refine ih (listed.setIfInBounds i true) a' w' (by simpa using hz) (by rw [getD_set_ne true hit];exact hlt) ?_
    rw [Array.setIfInBounds_comm _ _ hit]
    exact h'
theorem wp_last {id:Nat} (t:Nat) (hm:P.follows .mixedOrders=true) (ht:t+1=ops.size) (hb:backward .any ops=true) (hw:waitsAll .any ops t=true) (hS:S w.drew)
 (h:S w.drew→wpAnyH P .any ops (LastQ P ops (NoPanic Q) t) S t ((Array.replicate (t+1) false).setIfInBounds t true) a w.drew):(Code.region id ops true).wp P Q a w:=by
 refine wp_region_noPanic (wp_region_any hm ?_)
 rw [←ht]
 refine wpAny_last (by omega) hb hw t _ a _ (by simp [ht]) (by simp) ?_
 exact wpAny_of_held _ _ _ _ (h hS)
theorem lastRow (t:Nat) {ot:Oper} (ty x y:Nat) {g off:Nat} {cs:List Value} (ds:List Value) (r:RW w g off cs) (hl:ds.length=cs.length) (hin:(P.info? ty).map (·.size)=some ds.toArray.size) (h1:ds.toArray.all (·.oneCell')=true) (h:RW (w.setCells g off ds) g off ds→Q .normal (a.put ot.dst undef) (w.setCells g off ds))
 (hi:ops.toList[t]? = some ot:=by rfl) (ho:ot.op = .store ty (.tmp x) (.tmp y):=by rfl) (hx:a.eval (.tmp x) = .pointer (some ⟨g,off,none⟩):=by rfl) (hy:a.eval (.tmp y) = .agg ds.toArray:=by rfl) (hw:Region.wanted ot (yielded ops a.tmps)=true:=by rfl):LastQ P ops Q t .normal a w:=by
 show wpOp P ops Q t (Q .normal) a w
 unfold wpOp
 rw [at_list hi]
 dsimp only
 rw [if_pos hw]
 exact .inl (wp_store_mid ty _ _ ho g off ds.toArray hx hy (by rw [List.size_toArray,hl];exact r.there) hin h1 (h (r.stored ds hl)))
theorem lastRun (t:Nat) {ot:Oper} {w':World} (h:Q .normal (a.put ot.dst undef) w') (hi:ops.toList[t]? = some ot:=by rfl) (hw:Region.wanted ot (yielded ops a.tmps)=true:=by rfl)
 (hrun:(execOp a.eval ot).run P w = .ok .skip w':=by go_simp;try with_reducible rfl):LastQ P ops Q t .normal a w:=by
 show wpOp P ops Q t (Q .normal) a w
 unfold wpOp
 rw [at_list hi]
 dsimp only
 rw [if_pos hw]
 refine .inl ?_
 unfold Oper.wp
 rw [hrun]
 exact h
end
end Go.Proofs.YtbbikhlbkpjpjaaGreatDoor
namespace Go.Proofs.YtbbikhlbkpjpjaaGreatDoor
open Go.RowKit
section
variable {P:Program} {md:Region.Mode} {ops:Array Oper} {Q:Exit→Act→World→Prop} {S:World→Prop} {fuel:Nat} {listed:Array Bool} {a:Act} {w:World}
theorem tR (i:Nat) (hS:S w) {oi:Oper} {g off k:Nat} {cs:List Value} (hc:∀ u,S u→u.rangeAt g off cs) (ty:Nat) {d:TypeDesc} (hu:P.underlying ty=some d) (hin:(P.info? ty).map (·.size)=some cs.length)
 (h:wpAnyH P md ops Q S fuel (listed.setIfInBounds i true) (a.put oi.dst (.agg cs.toArray)) w) (hi:ops.toList[i]? = some oi:=by rfl) (ho:oi.op = .load ty (.tmp k):=by rfl)
 (hd:d.isRow=true:=by rfl) (hw:Region.wanted oi (yielded ops a.tmps)=true:=by rfl) (hx:a.eval (.tmp k) = .pointer (some ⟨g,off,none⟩):=by rfl)
 (hQ:∀ c b w,Q (.panic c) (b.put oi.dst (.agg cs.toArray)) w→Q (.panic c) b w:=by exact fun _ _ _ h=>h) (hs:Region.noSelect ops=true:=by kernel_rfl) (hf:Region.free md ops listed i=true:=by kernel_rfl) (hr:(Region.ready md ops listed).contains i=true:=by kernel_rfl):wpAnyH P md ops Q S (fuel+1) listed a w :=
 tkH i oi _ hS (yieldsIf_load_mid hw ty _ ho g off hx cs d hc hu hd hin) h hQ (at_list hi) hs hf hr
end
theorem range_keep {V W:World} {g o:Nat} {cs:List Value} (h:V.rangeAt g o cs) (hg:g<V.heap.size) (hb:Below V.heap.size V W):W.rangeAt g o cs:=fun j v hv=>(hb.cell (p:=⟨g,o+j,none⟩) hg).trans (h j v hv)
theorem build_rt0 (X:Nat→Nat) (w:World):Sem.run Tryz.prog (Instr.build 79 #[(1,.agg (ints .u8 32 X).toArray)]) w = .ok (.agg (rtL 0 X).toArray) w:=by kernel_rfl
def nextS (g:Nat) (X:Nat→Nat):Nat→Nat:=rtE g X rSec 32
theorem rt_zero (w:World):RW (w.alloc (.cells #[.int .i64 0,.int .u8 0,.int .u8 0,.int .u8 0,.int .u8 0,.int .u8 0,.int .u8 0,.int .u8 0,.int .u8 0,.int .u8 0,.int .u8 0,.int .u8 0,.int .u8 0,.int .u8 0,.int .u8 0,.int .u8 0,.int .u8 0,.int .u8 0,.int .u8 0,.int .u8 0,.int .u8 0,.int .u8 0,.int .u8 0,.int .u8 0,.int .u8 0,.int .u8 0,.int .u8 0,.int .u8 0,.int .u8 0,.int .u8 0,.int .u8 0,.int .u8 0,.int .u8 0] 79)) w.heap.size 0 (rtL 0 lZ):=RW.fresh w (rtL 0 lZ) 79
set_option maxRecDepth 20000 in
set_option maxHeartbeats 4000000 in
theorem rtNext_any (g:Nat) (hg:g<4294967296) (X:Nat→Nat) (hX:∀ j,X j<256) (w:World) (hT:TabAt w) :
 Calls Tryz.prog 44 #[rtV g X] w fun e w'=>e = .returned (rtV (g+1) (nextS g X))∧Below w.heap.size w w':=by
 obtain ⟨W1,hW1⟩:∃ W,W=w.alloc (.cells (rtL g X).toArray 79):=⟨_,rfl⟩
 have b1:Below w.heap.size w W1:=by rw [hW1];exact (Below.refl _ _).alloc (Nat.le_refl _) _
 have k1:RW W1 w.heap.size 0 (rtL g X):=by rw [hW1];exact RW.fresh w _ _
 have s1:W1.heap.size=w.heap.size+1:=by rw [hW1];simp
 obtain ⟨W2,hW2⟩:∃ W,W=W1.alloc (.cells #[.int .i64 0,.int .u8 0,.int .u8 0,.int .u8 0,.int .u8 0,.int .u8 0,.int .u8 0,.int .u8 0,.int .u8 0,.int .u8 0,.int .u8 0,.int .u8 0,.int .u8 0,.int .u8 0,.int .u8 0,.int .u8 0,.int .u8 0,.int .u8 0,.int .u8 0,.int .u8 0,.int .u8 0,.int .u8 0,.int .u8 0,.int .u8 0,.int .u8 0,.int .u8 0,.int .u8 0,.int .u8 0,.int .u8 0,.int .u8 0,.int .u8 0,.int .u8 0,.int .u8 0] 79):=⟨_,rfl⟩
 have b2:Below W1.heap.size W1 W2:=by rw [hW2];exact (Below.refl _ _).alloc (Nat.le_refl _) _
 have k2:RW W2 W1.heap.size 0 (rtL 0 lZ):=by rw [hW2];exact rt_zero W1
 replace k1:=k1.still b2
 have bA:=below_next b1 b2
 rw [s1] at k2
 have HW1:=Hid.mk' hW1
 have HW2:=Hid.mk' hW2
 have eV:rtV (g+1) (nextS g X) = .agg (Value.int .i64 ((g:Int)+1) :: ints .u8 32 (nextS g X)).toArray:=rfl
 rw [eV]
 unfold rtV
 clear hW1 hW2 b1 b2 eV
 go_enter Tryz.func44,Tryz.ntmps44
 go_upto_region 1 with (fail)
 rw [←HW1.out,←HW2.out]
 clear HW1 HW2
 have hdr:Below W2.heap.size W2 W2.drew:=(Below.refl _ _).drew
 replace k1:=k1.still hdr
 replace k2:=k2.still hdr
 replace bA:=below_next bA hdr
 clear hdr
 have cx:=rtExpand_any g hg X hX rSec (by decide) (by decide) 32 (by decide) W2.drew (hT.still bA)
 replace cx:Calls Tryz.prog 51 #[.agg (rtL g X).toArray,.string { data:=#[115,101,99,114,101,116] },.int .i64 32] W2.drew _:=cx
 have eN:nextS g X=rtE g X rSec 32:=rfl
 generalize rtE g X rSec 32=E at *
 have hgw:IntKind.i64.wrap ((g:Int)+1)=(g:Int)+1:=by simp only [IntKind.wrap_i64];omega
 have hgw':wrap64 ((g:Int)+1)=(g:Int)+1:=by unfold wrap64;omega
 refine wp_last 8 (S:=fun u=>Below W2.drew.heap.size W2.drew u) (by kernel_rfl) (by kernel_rfl) (by kernel_rfl) (by kernel_rfl) (Below.refl _ _) (fun hS => ?_)
 generalize W2.drew=V at *
 refine tg 0 hS ?_
 (try simp only [pS])
 refine tc 1 hS (fun u hu=>(rt_seed (k1.still hu).range).1) ?_
 (try simp only [pS])
 refine tg 2 hS (v := .int .i64 ((g:Int)+1)) ?_
 (try simp only [pS])
 refine tl 3 k1 hS 79 Tryz.underlying79 (infoRt g X) ?_
 (try simp only [pS])
 refine cn 4 cx ?_
 rintro e u1 ⟨x4,c4,rfl,B4,hb⟩
 refine ⟨_,rfl,hb,?_⟩
 (obtain ⟨g4,o4,e4,hg4,hc4,r4⟩:=bytes_row B4 (by decide));subst e4
 replace k2:=k2.still hb
 replace bA:=below_next bA hb
 clear hS hb k1 B4 cx
 have hS:=Below.refl u1.heap.size u1
 (try simp only [pS])
 refine tg 5 hS (v:=pA g4 o4) (hy:=by intro u hu;exact (show (execOp _ _).run Tryz.prog u=_ from by kernel_rfl)) ?_
 (try simp only [pS])
 refine tR 6 hS (fun u hu=>range_keep r4 hg4 hu) 60 Tryz.underlying60 (infoSd E) ?_
 (try simp only [pS])
 refine tg 7 hS (v := .agg (Value.int .i64 ((g:Int)+1) :: ints .u8 32 E).toArray) (hy:=by intro u hu;exact (show (execOp _ _).run Tryz.prog u=_ from by kernel_rfl)) ?_
 (try simp only [pS])
 refine wpAnyH_done (by kernel_rfl) ?_ _
 have hl7:(Value.int .i64 ((g:Int)+1) :: ints .u8 32 E).length=(rtL 0 lZ).length:=by rw [rtL_len,List.length_cons,ints_len]
 refine lastRow 8 79 2 10 (Value.int .i64 ((g:Int)+1) :: ints .u8 32 E) k2 hl7 (infoRtA (g+1) E) (oneRt (g+1) E) (fun rz => ?_)
 refine NoPanic.normal ?_
 go_wp2
 exact bodyPost_ret (results_cell_mid Tryz.results44 _ _ (w.heap.size+1) 0 (Value.int .i64 ((g:Int)+1) :: ints .u8 32 E) _ rfl rz.range Tryz.underlying79 rfl (infoRt (g+1) E)) rfl ⟨by rw [eN],below_setCells (Nat.le_succ _) _ 0 _ bA⟩
end Go.Proofs.YtbbikhlbkpjpjaaGreatDoor
namespace Go.Proofs.YtbbikhlbkpjpjaaGreatDoor
open Go.RowKit
theorem run_buildB {P:Program} (ev:Operand→Value) (oi:Oper) (u:World) {t:TypeId} {i:Nat} {x:Operand} {y v:Value} (ho:oi.op = .build t #[(i,x)]) (hx:ev x=y) (h:(Instr.build t #[(i,y)]).run P u = .ok v u):(execOp ev oi).run P u = .ok (.value v) u:=by
 unfold execOp
 simp only [ho,List.map_toArray,List.map_cons,List.map_nil,hx]
 simp [Result.andThen,h]
theorem wpList_build {P:Program} {w:World} {ops:Array Oper} {rest:List Oper} {o:Oper} {a:Act} {Q:Exit→Act→World→Prop} (hgd:o.guard=none) (t:TypeId) (ps:Array (Nat × Operand)) (_ho:o.op = .build t ps) (v:Value) (hrun:(execOp a.eval o).run P w = .ok (.value v) w) (h:wpList P ops Q rest (a.put o.dst v) w):wpList P ops Q (o :: rest) a w:=by
 refine wpList_plain hgd fun K hK => ?_
 unfold Oper.wp
 rw [hrun]
 exact hK _ _ h
theorem rt_size (g:Nat) (X:Nat→Nat):(rtL g X).toArray.size=33:=by rw [List.size_toArray,rtL_len]
set_option maxRecDepth 20000 in
set_option maxHeartbeats 4000000 in
theorem sdFirst_any (X:Nat→Nat) (hX:∀ j,X j<256) (t:Bool) (w:World) (hT:TabAt w) :
 Calls Tryz.prog 50 #[sdV X,.bool t] w fun e w'=>e = .returned (rtV 0 (fstS X t))∧Below w.heap.size w w':=by
 obtain ⟨W1,hW1⟩:∃ W,W=w.alloc (.cells (ints .u8 32 X).toArray 60):=⟨_,rfl⟩
 have b1:Below w.heap.size w W1:=by rw [hW1];exact (Below.refl _ _).alloc (Nat.le_refl _) _
 have k1:RW W1 w.heap.size 0 (ints .u8 32 X):=by rw [hW1];exact RW.fresh w _ _
 have s1:W1.heap.size=w.heap.size+1:=by rw [hW1];simp
 obtain ⟨W2,hW2⟩:∃ W,W=W1.alloc (.cells #[.int .i64 0,.int .u8 0,.int .u8 0,.int .u8 0,.int .u8 0,.int .u8 0,.int .u8 0,.int .u8 0,.int .u8 0,.int .u8 0,.int .u8 0,.int .u8 0,.int .u8 0,.int .u8 0,.int .u8 0,.int .u8 0,.int .u8 0,.int .u8 0,.int .u8 0,.int .u8 0,.int .u8 0,.int .u8 0,.int .u8 0,.int .u8 0,.int .u8 0,.int .u8 0,.int .u8 0,.int .u8 0,.int .u8 0,.int .u8 0,.int .u8 0,.int .u8 0,.int .u8 0] 79):=⟨_,rfl⟩
 have b2:Below W1.heap.size W1 W2:=by rw [hW2];exact (Below.refl _ _).alloc (Nat.le_refl _) _
 have k2:RW W2 W1.heap.size 0 (rtL 0 lZ):=by rw [hW2];exact rt_zero W1
 replace k1:=k1.still b2
 have bA:=below_next b1 b2
 rw [s1] at k2
 have HW1:=Hid.mk' hW1
 have HW2:=Hid.mk' hW2
 have hiX:=infoSd X
 have cx:=sdExpand_any X hX (if t then lApp else lHan) (by cases t <;> decide) (by cases t <;> decide) (.slice none 0 0) 0 lZ (fun _=>by show 0<256;decide) (by decide) 32 (by decide) W2 (hT.still bA) (.inl ⟨none,rfl,rfl⟩)
 have eE:fstS X t=exN 32 X (if t then lApp else lHan) 0 lZ 32:=rfl
 rw [eE]
 generalize exN 32 X (if t then lApp else lHan) 0 lZ 32=E at *
 have hiE:=infoSd E
 have hrI:=infoRt 0 E
 have hrA:=infoRtA 0 E
 have hrO:=oneRt 0 E
 have hbld:=fun {ev:Operand→Value} {oi:Oper} (u:World) (ho:oi.op = .build 79 #[(1,.tmp 11)]) (hx:ev (.tmp 11) = .agg (ints .u8 32 E).toArray)=>run_buildB (P:=Tryz.prog) ev oi u ho hx (build_rt0 E u)
 have hrs:=rt_size 0 E
 have hrl:=rtL_len 0 E
 unfold sdV at *
 unfold rtV
 generalize rtL 0 E=RL at *
 clear hW1 hW2 hT hX eE b1 b2
 cases t with
 | true =>
  replace cx:Calls Tryz.prog 62 #[.agg (ints .u8 32 X).toArray,.string { data:=#[97,112,112,108,105,99,97,116,105,111,110] },.slice none 0 0,.int .i64 32] W2 _:=cx
  go_enter Tryz.func50,Tryz.ntmps50
  go_upto_region 1 with (fail)
  rw [←HW1.out,←HW2.out]
  clear HW1 HW2
  go_wp2_with (first
   | rw [arr_at]
   | (refine wpList_build rfl 79 _ rfl (.agg RL.toArray) (hbld _ rfl rfl) ?_)
   | (refine wpList_load_mid rfl 60 (.tmp 2) rfl w.heap.size 0 rfl (ints .u8 32 X) _ k1.range Tryz.underlying60 rfl hiX ?_)
   | (go_at_call 62;(refine cx.mono ?_;clear cx;rintro e w4 ⟨x4,c4,rfl,B4,hb4⟩;(obtain ⟨g4,o4,e4,hg4,hc4,r4⟩:=bytes_row B4 (by decide));subst e4;have k4:=k2.still hb4;have b4:=below_next bA hb4;have th4:w4.there (w.heap.size+1) 0 RL.toArray.size:=(by have h:=k4.there;rw [rtL_len] at h;rw [hrs];exact h)))
   | (refine wpList_load_mid rfl 60 (.tmp 10) rfl g4 o4 rfl (ints .u8 32 E) _ r4 Tryz.underlying60 rfl hiE ?_)
   | (refine wpList_store_mid rfl 79 _ _ rfl (w.heap.size+1) 0 RL.toArray rfl rfl th4 hrA hrO ?_))
  have rz:=k4.stored RL (by rw [rtL_len,hrl])
  exact bodyPost_ret (results_cell_mid Tryz.results50 _ _ (w.heap.size+1) 0 RL _ rfl rz.range Tryz.underlying79 rfl hrI) rfl ⟨rfl,below_setCells (Nat.le_succ _) _ 0 _ b4⟩
 | false =>
  replace cx:Calls Tryz.prog 62 #[.agg (ints .u8 32 X).toArray,.string { data:=#[104,97,110,100,115,104,97,107,101] },.slice none 0 0,.int .i64 32] W2 _:=cx
  go_enter Tryz.func50,Tryz.ntmps50
  go_upto_region 1 with (fail)
  rw [←HW1.out,←HW2.out]
  clear HW1 HW2
  go_wp2_with (first
   | rw [arr_at]
   | (refine wpList_build rfl 79 _ rfl (.agg RL.toArray) (hbld _ rfl rfl) ?_)
   | (refine wpList_load_mid rfl 60 (.tmp 2) rfl w.heap.size 0 rfl (ints .u8 32 X) _ k1.range Tryz.underlying60 rfl hiX ?_)
   | (go_at_call 62;(refine cx.mono ?_;clear cx;rintro e w4 ⟨x4,c4,rfl,B4,hb4⟩;(obtain ⟨g4,o4,e4,hg4,hc4,r4⟩:=bytes_row B4 (by decide));subst e4;have k4:=k2.still hb4;have b4:=below_next bA hb4;have th4:w4.there (w.heap.size+1) 0 RL.toArray.size:=(by have h:=k4.there;rw [rtL_len] at h;rw [hrs];exact h)))
   | (refine wpList_load_mid rfl 60 (.tmp 10) rfl g4 o4 rfl (ints .u8 32 E) _ r4 Tryz.underlying60 rfl hiE ?_)
   | (refine wpList_store_mid rfl 79 _ _ rfl (w.heap.size+1) 0 RL.toArray rfl rfl th4 hrA hrO ?_))
  have rz:=k4.stored RL (by rw [rtL_len,hrl])
  exact bodyPost_ret (results_cell_mid Tryz.results50 _ _ (w.heap.size+1) 0 RL _ rfl rz.range Tryz.underlying79 rfl hrI) rfl ⟨rfl,below_setCells (Nat.le_succ _) _ 0 _ b4⟩
section
variable {P:Program} {md:Region.Mode} {ops:Array Oper} {Q:Exit→Act→World→Prop} {S:World→Prop} {fuel:Nat} {listed:Array Bool} {a:Act} {w:World}
theorem zRun (i:Nat) {rs:List Nat} {oi:Oper} {r:Value} {w':World} (hrun:(execOp a.eval oi).run P w = .ok (.value r) w') (hk:S w') (h:wpAnyH P md ops Q S fuel (listed.setIfInBounds i true) (a.put oi.dst r) w') (hs:AllReadyH P md ops Q S fuel listed a w rs)
 (hi:ops.toList[i]? = some oi:=by rfl) (hw:Region.wanted oi (yielded ops a.tmps)=true:=by rfl):AllReadyH P md ops Q S fuel listed a w (i :: rs):=by
 refine AllReadyH.cons (at_list hi) (fun K hK => ?_) hs
 rw [if_pos hw]
 unfold Oper.wp
 rw [hrun,Oper.upon_value]
 exact hK.out _ _ hk (fun _=>h)
theorem run_copyB (ev:Operand→Value) (oi:Oper) (x y:Operand) {t1 t2:TypeId} {u v r:Value} {w':World} (ho:oi.op = .call { callee := .builtin .copy,args:=#[x,y],argTypes:=#[t1,t2] }) (hx:ev x=u) (hy:ev y=v) (hrun:(Builtin.copy_ #[t1,t2] oi.type #[u,v]).run P w = .ok r w'):(execOp ev oi).run P w = .ok (.value r) w':=by
 unfold execOp
 simp only [ho,resolve,invoke,builtin,Sem.run_bind,Sem.run_pure,Result.andThen_ok,List.map_toArray,List.map_cons,List.map_nil,hx,hy,hrun]
end
theorem out_below {w w':World} {b:Nat} (o n:Nat) (h:Below w.heap.size w w') (hb:b<w.heap.size):Out b o n w w' :=
 ⟨h.os,h.tape,h.output,h.size,fun k hk _=>h.block k hk,fun q _=>h.cell (p:=⟨b,q,none⟩) hb,fun q=>h.frozen (p:=⟨b,q,none⟩) hb⟩
theorem RW.whole {w:World} {g o:Nat} {ps qs:List Value} (h1:RW w g o ps) (h2:RW w g (o+ps.length) qs):RW w g o (ps ++ qs):=by
 refine ⟨fun j v hv => ?_,fun j hj => ?_,h1.lt⟩
 · by_cases hj:j<ps.length
   · rw [List.getElem?_append_left hj] at hv;exact h1.range j v hv
   · rw [List.getElem?_append_right (by omega)] at hv
     have:=h2.range (j - ps.length) v hv
     rw [show o+ps.length+(j - ps.length)=o+j by omega] at this
     exact this
 · by_cases hj':j<ps.length
   · exact h1.there j hj'
   · have:=h2.there (j - ps.length) (by rw [List.length_append] at hj;omega)
     rw [show o+ps.length+(j - ps.length)=o+j by omega] at this
     exact this
theorem out_next {b o n:Nat} {w w1 w2:World} {p m:Nat} (h:Out b o n w w1) (h2:Out b p m w1 w2) (hp:o≤p) (hm:p+m≤o+n) (hl:w.heap.size≤w1.heap.size):Out b o n w w2 :=
 ⟨h2.os.trans h.os,h2.tape.trans h.tape,h2.output.trans h.output,Nat.le_trans h.size h2.size,fun k hk hne=>(h2.block k (Nat.lt_of_lt_of_le hk hl) hne).trans (h.block k hk hne),fun q hq=>(h2.cell q (by omega)).trans (h.cell q hq),fun q=>(h2.frozen q).trans (h.frozen q)⟩
end Go.Proofs.YtbbikhlbkpjpjaaGreatDoor
