/- What the proof stands on: N3F, N3G, N3D, ZFl. -/
import Derived.Test.YtddkbmnkbfciaaaGreatDoorD1CEM
import Derived.Test.YtddkbmnkbfciaaaGreatDoorN3HM
import Derived.Test.YtddkbmnkbfciaaaGreatDoorZAb2M
namespace Go.Proofs.YtddkbmnkbfciaaaGreatDoor
open Go.RowKit
structure Fd where
 i0:Nat
 c0:Array Value
 i1:Nat
 c1:Array Value
 i2:Nat
 c2:Array Value
abbrev Fd.val (f:Fd):Value := .agg #[clo f.i0 f.c0,clo f.i1 f.c1,clo f.i2 f.c2]
abbrev Fd.cells (f:Fd):List Value:=[clo f.i0 f.c0,clo f.i1 f.c1,clo f.i2 f.c2]
def Bxs (lo hi:Nat) (w:World) (L:List (Nat × List Value)):Prop:=∀ x,x∈L→lo≤x.1∧x.1<hi∧RW w x.1 0 x.2
theorem Bxs.same {lo hi:Nat} {w w':World} {L:List (Nat × List Value)} (h:Bxs lo hi w L) (hb:SameIn lo hi w w'):Bxs lo hi w' L:=fun x hx=>by
 obtain ⟨h1,h2,r⟩:=h x hx
 exact ⟨h1,h2,fun j v hv=>(hb.cell h1 h2).trans (r.range j v hv),fun j hj=>by rw [hb.cell h1 h2,hb.frozen h1 h2];exact r.there j hj,Nat.lt_of_lt_of_le r.lt hb.size⟩
theorem Bxs.wide {lo hi lo' hi':Nat} {w:World} {L:List (Nat × List Value)} (h:Bxs lo hi w L) (h1:lo'≤lo) (h2:hi≤hi'):Bxs lo' hi' w L:=fun x hx=>by
 obtain ⟨a,b,r⟩:=h x hx
 exact ⟨Nat.le_trans h1 a,Nat.lt_of_lt_of_le b h2,r⟩
theorem Bxs.of {lo:Nat} {w:World} {L:List (Nat × List Value)} (h:∀ x,x∈L→lo≤x.1∧RW w x.1 0 x.2):Bxs lo w.heap.size w L:=fun x hx=>⟨(h x hx).1,(h x hx).2.lt,(h x hx).2⟩
theorem Bxs.still {lo hi:Nat} {w w':World} {L:List (Nat × List Value)} (h:Bxs lo hi w L) (hb:Below w.heap.size w w'):Bxs lo hi w' L:=fun x hx=>⟨(h x hx).1,(h x hx).2.1,(h x hx).2.2.still hb⟩
theorem Bxs.rest {lo hi:Nat} {X:List Nat} {w w':World} {L:List (Nat × List Value)} (h:Bxs lo hi w L) (hb:Rest X w w') (hX:∀ x,x∈X→x<lo∨hi≤x):Bxs lo hi w' L:=fun x hx=>by
 obtain ⟨a,b,r⟩:=h x hx
 exact ⟨a,b,r.rest hb (fun e=>by have:=hX _ e;omega)⟩
def VecD (lo hi:Nat) (w:World) (f:Fd) (p o:Nat) (l m:Int):Prop:=∃ q1 q2 q3,f=⟨264,#[pA q1 0,pA q2 0,pA q3 0],265,#[pA q1 0],267,#[pA q1 0]⟩∧Bxs lo hi w [(q1,[pA p o]),(q2,[.int .i64 l]),(q3,[.int .i64 m])]
def NumD (lo hi:Nat) (w:World) (f:Fd) (p o:Nat) (s l m:Int):Prop:=∃ q1 q2 q3 q4,f=⟨287,#[pA q1 0,pA q3 0,pA q4 0],288,#[pA q1 0,pA q2 0],289,#[pA q2 0,pA q1 0]⟩∧Bxs lo hi w [(q1,[pA p o]),(q2,[.int .i64 s]),(q3,[.int .i64 l]),(q4,[.int .i64 m])]
def HonD (lo hi:Nat) (w:World) (f:Fd) (p o:Nat):Prop:=∃ q0 q1,f=⟨268,#[pA q0 0],265,#[pA q1 0],267,#[pA q1 0]⟩∧Bxs lo hi w [(q0,[pA p o]),(q1,[pA p o])]
def LnD (lo hi:Nat) (w:World) (f:Fd) (p o:Nat):Prop:=∃ q,f=⟨269,#[pA q 0],271,#[pA q 0],272,#[pA q 0]⟩∧Bxs lo hi w [(q,[pA p o])]
def LhD (lo hi:Nat) (w:World) (f:Fd) (p o:Nat):Prop:=∃ q q0 q1 s1 s2 s3 g9 g10 k,f=⟨293,#[pA k 0],294,#[pA k 0],295,#[pA k 0]⟩∧Bxs lo hi w [(q,[pA p o]),(q0,[pA p (o+4)]),(q1,[pA p (o+4)]),(s1,[pA p (o+4)]),(s2,[.int .i64 0]),(s3,[.int .i64 0]),
 (g9,[clo 268 #[pA q0 0],clo 265 #[pA q1 0],clo 267 #[pA q1 0]]),
 (g10,[clo 264 #[pA s1 0,pA s2 0,pA s3 0],clo 300 #[],clo 301 #[]]),(k,[clo 292 #[pA q 0,pA g9 0,pA g10 0]])]
def unwD (f:Fd):Fd:=⟨f.i0,f.c0,300,#[],301,#[]⟩
section
variable {lo hi lo' hi':Nat} {w w':World} {f:Fd} {p o:Nat} {s l m:Int}
theorem VecD.map (h:VecD lo hi w f p o l m) (g:∀ L,Bxs lo hi w L→Bxs lo' hi' w' L):VecD lo' hi' w' f p o l m:=by
 obtain ⟨q1,q2,q3,e,b⟩:=h;exact ⟨q1,q2,q3,e,g _ b⟩
theorem NumD.map (h:NumD lo hi w f p o s l m) (g:∀ L,Bxs lo hi w L→Bxs lo' hi' w' L):NumD lo' hi' w' f p o s l m:=by
 obtain ⟨q1,q2,q3,q4,e,b⟩:=h;exact ⟨q1,q2,q3,q4,e,g _ b⟩
theorem HonD.map (h:HonD lo hi w f p o) (g:∀ L,Bxs lo hi w L→Bxs lo' hi' w' L):HonD lo' hi' w' f p o:=by
 obtain ⟨q1,q2,e,b⟩:=h;exact ⟨q1,q2,e,g _ b⟩
theorem LnD.map (h:LnD lo hi w f p o) (g:∀ L,Bxs lo hi w L→Bxs lo' hi' w' L):LnD lo' hi' w' f p o:=by
 obtain ⟨q1,e,b⟩:=h;exact ⟨q1,e,g _ b⟩
theorem LhD.map (h:LhD lo hi w f p o) (g:∀ L,Bxs lo hi w L→Bxs lo' hi' w' L):LhD lo' hi' w' f p o:=by
 obtain ⟨q,q0,q1,s1,s2,s3,g9,g10,k,e,b⟩:=h;exact ⟨q,q0,q1,s1,s2,s3,g9,g10,k,e,g _ b⟩
end
theorem vecD_any (p o:Nat) (l m:Int) (w:World):Calls Tryz.prog 242 #[pA p o,.int .i64 l,.int .i64 m] w fun e w'=>∃ f:Fd,e = .returned f.val∧VecD w.heap.size w'.heap.size w' f p o l m∧Below w.heap.size w w' :=
 (vec_any p o l m w).mono fun e w' h=>by
  obtain ⟨F,rfl,⟨q1,q2,q3,rfl,⟨h1,h2,h3⟩,r1,r2,r3⟩,b⟩:=h
  refine ⟨⟨264,#[pA q1 0,pA q2 0,pA q3 0],265,#[pA q1 0],267,#[pA q1 0]⟩,rfl,⟨q1,q2,q3,rfl,Bxs.of ?_⟩,b⟩
  simp only [List.mem_cons,List.not_mem_nil,or_false]
  rintro x (rfl | rfl | rfl)
  · exact ⟨h1,r1⟩
  · exact ⟨h2,r2⟩
  · exact ⟨h3,r3⟩
theorem numD_any (p o:Nat) (s l m:Int) (w:World):Calls Tryz.prog 262 #[pA p o,.int .i64 s,.int .i64 l,.int .i64 m] w fun e w'=>∃ f:Fd,e = .returned f.val∧NumD w.heap.size w'.heap.size w' f p o s l m∧Below w.heap.size w w' :=
 (num_any p o s l m w).mono fun e w' h=>by
  obtain ⟨F,rfl,⟨q1,q2,q3,q4,rfl,⟨h1,h2,h3,h4⟩,r1,r2,r3,r4⟩,b⟩:=h
  refine ⟨⟨287,#[pA q1 0,pA q3 0,pA q4 0],288,#[pA q1 0,pA q2 0],289,#[pA q2 0,pA q1 0]⟩,rfl,⟨q1,q2,q3,q4,rfl,Bxs.of ?_⟩,b⟩
  simp only [List.mem_cons,List.not_mem_nil,or_false]
  rintro x (rfl | rfl | rfl | rfl)
  · exact ⟨h1,r1⟩
  · exact ⟨h2,r2⟩
  · exact ⟨h3,r3⟩
  · exact ⟨h4,r4⟩
theorem honD_any (p o:Nat) (w:World):Calls Tryz.prog 243 #[pA p o] w fun e w'=>∃ f:Fd,e = .returned f.val∧HonD w.heap.size w'.heap.size w' f p o∧Below w.heap.size w w' :=
 (hon_any p o w).mono fun e w' h=>by
  obtain ⟨F,rfl,⟨q1,q2,rfl,⟨h1,h2⟩,r1,r2⟩,b⟩:=h
  refine ⟨⟨268,#[pA q1 0],265,#[pA q2 0],267,#[pA q2 0]⟩,rfl,⟨q1,q2,rfl,Bxs.of ?_⟩,b⟩
  simp only [List.mem_cons,List.not_mem_nil,or_false]
  rintro x (rfl | rfl)
  · exact ⟨h1,r1⟩
  · exact ⟨h2,r2⟩
theorem lnD_any (p o:Nat) (w:World):Calls Tryz.prog 244 #[pA p o] w fun e w'=>∃ f:Fd,e = .returned f.val∧LnD w.heap.size w'.heap.size w' f p o∧Below w.heap.size w w' :=
 (lnm_any p o w).mono fun e w' h=>by
  obtain ⟨F,rfl,⟨q1,rfl,h1,r1⟩,b⟩:=h
  refine ⟨⟨269,#[pA q1 0],271,#[pA q1 0],272,#[pA q1 0]⟩,rfl,⟨q1,rfl,Bxs.of ?_⟩,b⟩
  simp only [List.mem_cons,List.not_mem_nil,or_false]
  rintro x rfl
  exact ⟨h1,r1⟩
theorem lhD_any (p o:Nat) (w:World):Calls Tryz.prog 263 #[pA p o] w fun e w'=>∃ f:Fd,e = .returned f.val∧LhD w.heap.size w'.heap.size w' f p o∧Below w.heap.size w w' :=
 (lh_any p o w).mono fun e w' h=>by
  obtain ⟨F,rfl,⟨q,q0,q1,s1,s2,s3,g9,g10,k,rfl,⟨h1,h2,h3,h4,h5,h6,h7,h8,h9⟩,r1,r2,r3,r4,r5,r6,r7,r8,r9⟩,b⟩:=h
  refine ⟨⟨293,#[pA k 0],294,#[pA k 0],295,#[pA k 0]⟩,rfl,⟨q,q0,q1,s1,s2,s3,g9,g10,k,rfl,Bxs.of ?_⟩,b⟩
  simp only [List.mem_cons,List.not_mem_nil,or_false]
  rintro x (rfl | rfl | rfl | rfl | rfl | rfl | rfl | rfl | rfl)
  · exact ⟨h1,r1⟩
  · exact ⟨h2,r2⟩
  · exact ⟨h3,r3⟩
  · exact ⟨h4,r4⟩
  · exact ⟨h5,r5⟩
  · exact ⟨h6,r6⟩
  · exact ⟨h7,r7⟩
  · exact ⟨h8,r8⟩
  · exact ⟨h9,r9⟩
def FL (base:Nat) (w:World) (v:Value) (fs:List Fd):Prop:=w.ownsRow base 243 3 v fs.length (fs.flatMap Fd.cells)
theorem FL.still {base:Nat} {w w':World} {v:Value} {fs:List Fd} (h:FL base w v fs) (hb:Below w.heap.size w w'):FL base w' v fs:=own_below h hb
theorem FL.lit (base:Nat) (w:World) (fs:List Fd) (hb:base≤w.heap.size) (hl:fs.length≤100):FL base (w.alloc (.cells (fs.flatMap Fd.cells).toArray 243)) (.slice (some ⟨w.heap.size,0,none⟩) fs.length fs.length) fs:=by
 have hs:(fs.flatMap Fd.cells).toArray.size=fs.length*3:=by
  rw [List.size_toArray]
  clear hl
  induction fs with
  | nil=>rfl
  | cons f fs ih=>rw [List.flatMap_cons,List.length_append,ih];show 3+_=(fs.length+1)*3;omega
 have:=World.ownsRow_lit (base:=base) (e:=243) (size:=3) w (fs.flatMap Fd.cells).toArray fs.length hb (by unfold maxLen;omega) hs
 exact this
end Go.Proofs.YtddkbmnkbfciaaaGreatDoor
namespace Go.Proofs.YtddkbmnkbfciaaaGreatDoor
open Go.RowKit
structure LeafFs (lo hi:Nat) (w:World) (p o:Nat) (last:Int) (f0 f1 f2 f3 f4 f5:Fd):Prop where
 e0:VecD lo hi w f0 p o 32 32
 e1:VecD lo hi w f1 p (o+1) 32 32
 e2:VecD lo hi w f2 p (o+2) 1 64
 e3:NumD lo hi w f3 p (o+3) 1 1 last
 e4:LhD lo hi w f4 p o
 e5:VecD lo hi w f5 p (o+5) 64 64
theorem LeafFs.map {lo hi lo' hi':Nat} {w w':World} {p o:Nat} {last:Int} {f0 f1 f2 f3 f4 f5:Fd} (h:LeafFs lo hi w p o last f0 f1 f2 f3 f4 f5) (g:∀ L,Bxs lo hi w L→Bxs lo' hi' w' L):LeafFs lo' hi' w' p o last f0 f1 f2 f3 f4 f5 :=
 ⟨h.e0.map g,h.e1.map g,h.e2.map g,h.e3.map g,h.e4.map g,h.e5.map g⟩
set_option maxRecDepth 20000 in
set_option maxHeartbeats 2000000 in
theorem lft_any (p o:Nat) (last:Int) (w:World):Calls Tryz.prog 240 #[pA p o,.int .i64 last] w fun e w'=>∃ v f0 f1 f2 f3 f4 f5,e = .returned v∧FL w.heap.size w' v [f0,f1,f2,f3,f4,f5]∧LeafFs w.heap.size w'.heap.size w' p o last f0 f1 f2 f3 f4 f5∧Below w.heap.size w w':=by
 go_enter Tryz.func240,Tryz.ntmps240
 go_wp2
 refine wp_region_held_drew (S:=fun u=>Below w.drew.heap.size w.drew u) (by kernel_rfl) (Below.refl _ _) (fun hS => ?_)
 have bd:Below w.heap.size w w.drew:=(Below.refl _ _).drew
 generalize w.drew=V at *
 refine tg 0 hS ?_
 (try simp only [pS])
 refine tg 1 hS ?_
 (try simp only [pS])
 refine tg 2 hS (v:=pA p o) ?_ (hy:=by intro u _;kernel_rfl)
 (try simp only [pS])
 refine tg 4 hS ?_
 (try simp only [pS])
 refine tg 5 hS ?_
 (try simp only [pS])
 refine tg 6 hS (v:=pA p (o+1)) ?_ (hy:=by intro u _;kernel_rfl)
 (try simp only [pS])
 refine tg 8 hS ?_
 (try simp only [pS])
 refine tg 9 hS ?_
 (try simp only [pS])
 refine tg 10 hS (v:=pA p (o+2)) ?_ (hy:=by intro u _;kernel_rfl)
 (try simp only [pS])
 refine tg 12 hS ?_
 (try simp only [pS])
 refine tg 13 hS ?_
 (try simp only [pS])
 refine tg 14 hS (v:=pA p (o+3)) ?_ (hy:=by intro u _;kernel_rfl)
 (try simp only [pS])
 refine tg 15 hS ?_
 (try simp only [pS])
 refine tg 17 hS ?_
 (try simp only [pS])
 refine tg 19 hS ?_
 (try simp only [pS])
 refine tg 20 hS ?_
 (try simp only [pS])
 refine tg 21 hS (v:=pA p (o+5)) ?_ (hy:=by intro u _;kernel_rfl)
 (try simp only [pS])
 refine cn 3 (vecD_any p o 32 32 V) (fun e w1 hr => ?_)
 obtain ⟨f0,rfl,d0,b1⟩:=hr
 refine ⟨_,rfl,b1,?_⟩
 (try simp only [pS])
 refine cn 7 (vecD_any p (o+1) 32 32 w1) (fun e w2 hr => ?_)
 obtain ⟨f1,rfl,d1,b2⟩:=hr
 refine ⟨_,rfl,b2,?_⟩
 (try simp only [pS])
 refine cn 11 (vecD_any p (o+2) 1 64 w2) (fun e w3 hr => ?_)
 obtain ⟨f2,rfl,d2,b3⟩:=hr
 refine ⟨_,rfl,b3,?_⟩
 (try simp only [pS])
 refine cn 16 (numD_any p (o+3) 1 1 last w3) (fun e w4 hr => ?_)
 obtain ⟨f3,rfl,d3,b4⟩:=hr
 refine ⟨_,rfl,b4,?_⟩
 (try simp only [pS])
 refine cn 18 (lhD_any p o w4) (fun e w5 hr => ?_)
 obtain ⟨f4,rfl,d4,b5⟩:=hr
 refine ⟨_,rfl,b5,?_⟩
 (try simp only [pS])
 refine cn 22 (vecD_any p (o+5) 64 64 w5) (fun e w6 hr => ?_)
 obtain ⟨f5,rfl,d5,b6⟩:=hr
 refine ⟨_,rfl,b6,?_⟩
 (try simp only [pS])
 have b7:Below w6.heap.size w6 (w6.alloc (.cells ([f0,f1,f2,f3,f4,f5].flatMap Fd.cells).toArray 243)):=(Below.refl _ _).alloc (Nat.le_refl _) _
 refine onlyV 23 (v := .slice (some ⟨w6.heap.size,0,none⟩) 6 6) (w':=w6.alloc (.cells ([f0,f1,f2,f3,f4,f5].flatMap Fd.cells).toArray 243)) ?_ b7 ?_
 · kernel_rfl
 (try simp only [pS])
 refine tg 24 b7 ?_
 (try simp only [pS])
 refine wpAnyH_done (by kernel_rfl) ?_ _
 go_wp2
 go_ret
 have hl:=FL.lit w.heap.size w6 [f0,f1,f2,f3,f4,f5] (Nat.le_trans bd.size (Nat.le_trans b1.size (Nat.le_trans b2.size (Nat.le_trans b3.size (Nat.le_trans b4.size (Nat.le_trans b5.size b6.size)))))) (by simp)
 have z1:=bd.size
 have z2:=b1.size
 have z3:=b2.size
 have z4:=b3.size
 have z5:=b4.size
 have z6:=b5.size
 have z7:=b6.size
 have z8:=b7.size
 generalize w6.alloc (.cells ([f0,f1,f2,f3,f4,f5].flatMap Fd.cells).toArray 243)=W at *
 have c6:=b7
 have c5:=below_next b6 c6
 have c4:=below_next b5 c5
 have c3:=below_next b4 c4
 have c2:=below_next b3 c3
 have c1:=below_next b2 c2
 refine ⟨_,f0,f1,f2,f3,f4,f5,rfl,hl,⟨?_,?_,?_,?_,?_,?_⟩,below_next bd (below_next b1 c1)⟩
 · exact d0.map fun L h=>(h.still c1).wide (by omega) (by omega)
 · exact d1.map fun L h=>(h.still c2).wide (by omega) (by omega)
 · exact d2.map fun L h=>(h.still c3).wide (by omega) (by omega)
 · exact d3.map fun L h=>(h.still c4).wide (by omega) (by omega)
 · exact d4.map fun L h=>(h.still c5).wide (by omega) (by omega)
 · exact d5.map fun L h=>(h.still c6).wide (by omega) (by omega)
end Go.Proofs.YtddkbmnkbfciaaaGreatDoor
namespace Go.Proofs.YtddkbmnkbfciaaaGreatDoor
open Go.RowKit
structure Tx where
 n:Nat
 b:Nat→Nat
structure LfD where
 enc:Tx
 sig:Tx
 name:Tx
 src:Int
 hash:Tx
 sg:Tx
def lfR (d:LfD) (last:Int):Prop:=d.enc.n=32∧d.sig.n=32∧(1≤d.name.n∧d.name.n≤64)∧(1≤d.src∧d.src≤last)∧(if d.src=3 then d.hash.n=0∨d.hash.n=32 else d.hash.n=0)∧d.sg.n=64
def lfA (d:LfD) (last:Int):Nat→Bool
 | 0=>decide ((32:Int)≤(d.enc.n:Int)) && decide ((d.enc.n:Int)≤32)
 | 1=>decide ((32:Int)≤(d.sig.n:Int)) && decide ((d.sig.n:Int)≤32)
 | 2=>decide ((1:Int)≤(d.name.n:Int)) && decide ((d.name.n:Int)≤64)
 | 3=>decide (1≤d.src) && decide (d.src≤last)
 | 4=>if d.src=3 then decide (d.hash.n=0) || decide (d.hash.n=32) else decide (d.hash.n=0)
 | _=>decide ((64:Int)≤(d.sg.n:Int)) && decide ((d.sg.n:Int)≤64)
def lfN (d:LfD):Nat→Nat
 | 0=>vcL d.enc.n
 | 1=>vcL d.sig.n
 | 2=>vcL d.name.n
 | 3=>1
 | 4=>if d.src=3 then vcL d.hash.n else 0
 | _=>vcL d.sg.n
def lfB (d:LfD):Nat→Nat→Nat
 | 0=>vcB d.enc.n d.enc.b
 | 1=>vcB d.sig.n d.sig.b
 | 2=>vcB d.name.n d.name.b
 | 3=>beN d.src.toNat 1
 | 4=>vcB d.hash.n d.hash.b
 | _=>vcB d.sg.n d.sg.b
def allU (al:Nat→Bool):Nat→Bool
 | 0=>true
 | n+1=>allU al n && al n
theorem lf_all (d:LfD) (last:Int):allU (lfA d last) 6=true↔lfR d last:=by
 simp only [allU,lfA,lfR,Bool.and_eq_true,decide_eq_true_eq,Bool.true_and]
 by_cases h:d.src=3
 · simp only [if_pos h,Bool.or_eq_true,decide_eq_true_eq];omega
 · simp only [if_neg h,decide_eq_true_eq];omega
structure PrD where
 enc:Tx
 hash:Tx
 um:List Int
structure PkD where
 init:Tx
 leaf:LfD
 sg:Tx
def zat (l:List Int) (i:Nat):Int:=(l[i]?).getD 0
def lastZ (l:List Int):Nat→Int
 | 0=>-1
 | k+1=>zat l k
def risU (l:List Int):Nat→Bool
 | 0=>true
 | k+1=>risU l k && (decide (lastZ l k<zat l k) && decide (zat l k<64))
def umB (l:List Int):Nat→Nat→Nat:=allB (fun _=>4) (fun i=>beN (zat l i).toNat 4)
def prR (d:PrD):Prop:=d.enc.n=32∧(d.hash.n=0∨d.hash.n=32)∧risU d.um d.um.length=true
def prA (d:PrD):Nat→Bool
 | 0=>decide ((32:Int)≤(d.enc.n:Int)) && decide ((d.enc.n:Int)≤32)
 | 1=>decide (d.hash.n=0) || decide (d.hash.n=32)
 | _=>risU d.um d.um.length
def prN (d:PrD):Nat→Nat
 | 0=>vcL d.enc.n
 | 1=>vcL d.hash.n
 | _=>vcL (4*d.um.length)
def prB (d:PrD):Nat→Nat→Nat
 | 0=>vcB d.enc.n d.enc.b
 | 1=>vcB d.hash.n d.hash.b
 | _=>vcB (4*d.um.length) (umB d.um d.um.length)
theorem pr_all (d:PrD):allU (prA d) 3=true↔prR d:=by
 simp only [allU,prA,prR,Bool.and_eq_true,decide_eq_true_eq,Bool.true_and,Bool.or_eq_true]
 constructor
 · rintro ⟨⟨h0,h1⟩,h2⟩
   exact ⟨by omega,h1,h2⟩
 · rintro ⟨h0,h1,h2⟩
   exact ⟨⟨by omega,h1⟩,h2⟩
def pkA (d:PkD):Nat→Bool
 | 0=>decide ((1:Int)≤1) && decide ((1:Int)≤1)
 | 1=>decide ((1:Int)≤1) && decide ((1:Int)≤1)
 | 2=>decide ((32:Int)≤(d.init.n:Int)) && decide ((d.init.n:Int)≤32)
 | 3=>lfA d.leaf 1 0
 | 4=>lfA d.leaf 1 1
 | 5=>lfA d.leaf 1 2
 | 6=>lfA d.leaf 1 3
 | 7=>lfA d.leaf 1 4
 | 8=>lfA d.leaf 1 5
 | _=>decide ((64:Int)≤(d.sg.n:Int)) && decide ((d.sg.n:Int)≤64)
end Go.Proofs.YtddkbmnkbfciaaaGreatDoor
namespace Go.Proofs.YtddkbmnkbfciaaaGreatDoor
open Go.RowKit
section
variable {P:Program} {md:Region.Mode} {ops:Array Oper} {Q:Exit→Act→World→Prop} {S:World→Prop} {fuel:Nat} {listed:Array Bool} {a:Act} {w:World}
def LastQ (P:Program) (ops:Array Oper) (Q:Exit→Act→World→Prop) (t:Nat):Exit→Act→World→Prop
 | .normal,a,w=>wpOp P ops Q t (Q .normal) a w
 | e,a,w=>Q e a w
def backward (md:Region.Mode) (ops:Array Oper):Bool:=(List.range ops.size).all fun i=>match ops[i]? with
 | none=>true
 | some o=>o.after.toList.all fun e=>!Region.binds md e || decide (e.on<i)
def waitsAll (md:Region.Mode) (ops:Array Oper) (t:Nat):Bool:=match ops[t]? with
 | none=>false
 | some o=>(List.range ops.size).all fun i=>decide (i=t) || o.after.toList.any fun e=>Region.binds md e && decide (e.on=i)
theorem backward_at (h:backward md ops=true) {i:Nat} {o:Oper} (ho:ops[i]? = some o) {e:Edge} (he:e∈o.after) (hb:Region.binds md e=true):e.on<i:=by
 have h1:=List.all_eq_true.1 h i (List.mem_range.2 (Array.getElem?_eq_some_iff.1 ho).1)
 rw [ho] at h1
 have h2:=List.all_eq_true.1 h1 e (Array.mem_toList_iff.2 he)
 rw [hb] at h2
 simpa using h2
theorem waitsAll_at {t:Nat} (h:waitsAll md ops t=true):∃ o,ops[t]? = some o∧∀ i,i<ops.size→i≠t→∃ e∈o.after,Region.binds md e=true∧e.on=i:=by
 unfold waitsAll at h
 split at h
 · cases h
 · rename_i o ho
   refine ⟨o,ho,fun i hi hne => ?_⟩
   have h1:=List.all_eq_true.1 h i (List.mem_range.2 hi)
   rw [decide_eq_false hne,Bool.false_or] at h1
   obtain ⟨e,he,h2⟩:=List.any_eq_true.1 h1
   rw [Bool.and_eq_true,decide_eq_true_eq] at h2
   exact ⟨e,Array.mem_toList_iff.1 he,h2.1,h2.2⟩
theorem wpOp_swap {Q':Exit→Act→World→Prop} (hp:∀ c a w,Q' (.panic c) a w→Q (.panic c) a w) (hl:LetsOut Q'→LetsOut Q) {i:Nat} {K:Act→World→Prop} (hh:wpOp P ops Q' i K a w):wpOp P ops Q i K a w:=by
 unfold wpOp at *
 split
 · simpa [*] using hh
 · rename_i o ho
   simp only [ho] at hh
   split
   · rename_i hw
     simp only [hw,if_true] at hh
     refine hh.imp (fun hh => ?_) (fun h=>⟨h.1,hl h.2⟩)
     unfold Oper.wp at *
     generalize (execOp a.eval o).run P w=r at *
     cases r with
     | ok n w' =>
      cases n <;> simp only [Oper.upon] at hh ⊢ <;>
       first
        | exact hh
        | exact Calls.mono hh (fun e w'' he=>by cases e <;> first | exact he | exact hp _ _ _ he | exact hl he)
     | halt x w'=>cases x <;> simp only [Oper.upon] at hh ⊢ <;> first | exact hh | exact hp _ _ _ hh
   · rename_i hw;simp only [hw] at hh;exact hh
theorem wpAny_end (hr:Region.ready md ops listed=[]) (h:Q .normal a w):∀ fuel,wpAny P md ops Q fuel listed a w
 | 0=>⟨hr,h⟩
 | _+1=>⟨fun _=>h,by rw [hr];simp⟩
theorem all_listed {t:Nat} (hb:backward md ops=true) (hz:listed.size=ops.size) (hr:Region.ready md ops (listed.setIfInBounds t true)=[]):∀ i,i<ops.size→i≠t→listed.getD i true=true:=by
 intro i
 induction i using Nat.strongRecOn with
 | ind i ih =>
  intro hi hne
  cases hc:listed.getD i true with
  | true=>rfl
  | false =>
   have hmem:i∈Region.ready md ops (listed.setIfInBounds t true):=by
    rw [mem_ready]
    refine ⟨by rw [getD_set_ne true (Ne.symm hne)];exact hc,ops[i],Array.getElem?_eq_getElem hi,fun e he hbe => ?_⟩
    have hlt:=backward_at hb (Array.getElem?_eq_getElem hi) he hbe
    by_cases het:e.on=t
    · rw [het]
      have:t<listed.size:=by omega
      simp [this]
    · have h1:=ih e.on hlt (by omega) het
      have hs:e.on<listed.size:=by omega
      rw [getD_set_ne false (Ne.symm het)]
      simp [hs] at h1 ⊢
      exact h1
   rw [hr] at hmem
   cases hmem
theorem wpAny_last {t:Nat} (ht:t<ops.size) (hb:backward md ops=true) (hw:waitsAll md ops t=true):∀ (fuel:Nat) (listed:Array Bool) (a:Act) (w:World),listed.size=ops.size→listed.getD t true=false →
 wpAny P md ops (LastQ P ops Q t) fuel (listed.setIfInBounds t true) a w→wpAny P md ops Q (fuel+1) listed a w:=by
 intro fuel
 induction fuel with
 | zero =>
  intro listed a w hz hlt h
  have hall:=all_listed hb hz h.1
  have hq:wpOp P ops Q t (Q .normal) a w:=h.2
  obtain ⟨o,ho,-⟩:=waitsAll_at hw
  have hmt:t∈Region.ready md ops listed:=mem_ready.2 ⟨hlt,o,ho,fun e he hbe=>by
   have h1:=backward_at hb ho he hbe
   have h2:=hall e.on (by omega) (by omega)
   have hs:e.on<listed.size:=by omega
   simp [hs] at h2 ⊢
   exact h2⟩
  refine ⟨fun h0=>(by rw [h0] at hmt;cases hmt),fun i hi => ?_⟩
  by_cases hit:i=t
  · subst hit
    exact wpOp_mono (fun a' w' h'=>wpAny_end h.1 h' _) hq
  · have:=ready_mono hi hit
    rw [h.1] at this
    cases this
 | succ fuel ih =>
  intro listed a w hz hlt h
  by_cases hr:Region.ready md ops (listed.setIfInBounds t true)=[]
  · have hall:=all_listed hb hz hr
    have hq:wpOp P ops Q t (Q .normal) a w:=h.1 hr
    obtain ⟨o,ho,-⟩:=waitsAll_at hw
    have hmt:t∈Region.ready md ops listed:=mem_ready.2 ⟨hlt,o,ho,fun e he hbe=>by
     have h1:=backward_at hb ho he hbe
     have h2:=hall e.on (by omega) (by omega)
     have hs:e.on<listed.size:=by omega
     simp [hs] at h2 ⊢
     exact h2⟩
    refine ⟨fun h0=>(by rw [h0] at hmt;cases hmt),fun i hi => ?_⟩
    by_cases hit:i=t
    · subst hit
      exact wpOp_mono (fun a' w' h'=>wpAny_end hr h' _) hq
    · have:=ready_mono hi hit
      rw [hr] at this
      cases this
  · obtain ⟨o,ho,hwt⟩:=waitsAll_at hw
    obtain ⟨j,hj⟩:=List.exists_mem_of_ne_nil _ hr
    obtain ⟨hju,oj,hoj,hjall⟩:=mem_ready.1 hj
    have hjs:j<ops.size:=(Array.getElem?_eq_some_iff.1 hoj).1
    have hjt:j≠t:=fun e=>by
     subst e
     have:j<listed.size:=by omega
     simp [this] at hju
    have hnt:t ∉ Region.ready md ops listed:=fun hm=>by
     obtain ⟨-,o',ho',hall⟩:=mem_ready.1 hm
     rw [ho] at ho'
     cases ho'
     obtain ⟨e,he,hbe,hej⟩:=hwt j hjs hjt
     have h1:=hall e he hbe
     rw [hej] at h1
     rw [getD_set_ne true (Ne.symm hjt)] at hju
     have hs:j<listed.size:=by omega
     simp [hs] at h1 hju
     rw [h1] at hju
     cases hju
    have hsome:∃ i,i∈Region.ready md ops listed:=by
     have hex:∃ i,i<ops.size∧i≠t∧listed.getD i true=false:=⟨j,hjs,hjt,by rwa [getD_set_ne true (Ne.symm hjt)] at hju⟩
     refine Classical.byContradiction fun hno => ?_
     obtain ⟨i,hi,hit,hiu⟩:=hex
     have hall:∀ i,i<ops.size→i≠t→listed.getD i true=true:=by
      intro i
      induction i using Nat.strongRecOn with
      | ind i ihh =>
       intro hi hne
       cases hc:listed.getD i true with
       | true=>rfl
       | false =>
        exfalso
        by_cases hti:∃ e∈ops[i].after,Region.binds md e=true∧e.on=t
        · obtain ⟨e1,he1,hb1,h1t⟩:=hti
          obtain ⟨e2,he2,hb2,h2i⟩:=hwt i hi hne
          have g1:=backward_at hb (Array.getElem?_eq_getElem hi) he1 hb1
          have g2:=backward_at hb ho he2 hb2
          omega
        · refine hno ⟨i,mem_ready.2 ⟨hc,ops[i],Array.getElem?_eq_getElem hi,fun e he hbe => ?_⟩⟩
          have hlt':=backward_at hb (Array.getElem?_eq_getElem hi) he hbe
          have h1:=ihh e.on hlt' (by omega) (fun het=>hti ⟨e,he,hbe,het⟩)
          have hs:e.on<listed.size:=by omega
          simp [hs] at h1 ⊢
          exact h1
     rw [hall i hi hit] at hiu
     cases hiu
    refine ⟨fun h0=>(by obtain ⟨i,hi⟩:=hsome;rw [h0] at hi;cases hi),fun i hi => ?_⟩
    have hit:i≠t:=fun e=>hnt (e ▸ hi)
    have h1:=h.2 i (ready_mono hi hit)
    refine wpOp_swap (Q':=LastQ P ops Q t) (fun _ _ _ h=>h) (fun h=>h) (wpOp_mono (fun a' w' h' => ?_) h1)
    refine ih (listed.setIfInBounds i true) a' w' (by simpa using hz) (by rw [getD_set_ne true hit];exact hlt) ?_
    rw [Array.setIfInBounds_comm _ _ hit]
    exact h'
theorem wp_last {id:Nat} (t:Nat) (hm:P.follows .mixedOrders=true) (ht:t+1=ops.size) (hb:backward .any ops=true) (hw:waitsAll .any ops t=true) (hS:S w.drew)
 (h:S w.drew→wpAnyH P .any ops (LastQ P ops (NoPanic Q) t) S t ((Array.replicate (t+1) false).setIfInBounds t true) a w.drew):(Code.region id ops true).wp P Q a w:=by
 refine wp_region_noPanic (wp_region_any hm ?_)
 rw [←ht]
 refine wpAny_last (by omega) hb hw t _ a _ (by simp [ht]) (by simp) ?_
 exact wpAny_of_held _ _ _ _ (h hS)
theorem lastRow (t:Nat) {ot:Oper} (ty x y:Nat) {g off:Nat} {cs:List Value} (ds:List Value) (r:RW w g off cs) (hl:ds.length=cs.length) (hin:(P.info? ty).map (·.size)=some ds.toArray.size) (h1:ds.toArray.all (·.oneCell')=true) (h:RW (w.setCells g off ds) g off ds→Q .normal (a.put ot.dst undef) (w.setCells g off ds))
 (hi:ops.toList[t]? = some ot:=by rfl) (ho:ot.op = .store ty (.tmp x) (.tmp y):=by rfl) (hx:a.eval (.tmp x) = .pointer (some ⟨g,off,none⟩):=by rfl) (hy:a.eval (.tmp y) = .agg ds.toArray:=by rfl) (hw:Region.wanted ot (yielded ops a.tmps)=true:=by rfl):LastQ P ops Q t .normal a w:=by
 show wpOp P ops Q t (Q .normal) a w
 unfold wpOp
 rw [at_list hi]
 dsimp only
 rw [if_pos hw]
 exact .inl (wp_store_mid ty _ _ ho g off ds.toArray hx hy (by rw [List.size_toArray,hl];exact r.there) hin h1 (h (r.stored ds hl)))
theorem lastRun (t:Nat) {ot:Oper} {w':World} (h:Q .normal (a.put ot.dst undef) w') (hi:ops.toList[t]? = some ot:=by rfl) (hw:Region.wanted ot (yielded ops a.tmps)=true:=by rfl)
 (hrun:(execOp a.eval ot).run P w = .ok .skip w':=by go_simp;try with_reducible rfl):LastQ P ops Q t .normal a w:=by
 show wpOp P ops Q t (Q .normal) a w
 unfold wpOp
 rw [at_list hi]
 dsimp only
 rw [if_pos hw]
 refine .inl ?_
 unfold Oper.wp
 rw [hrun]
 exact h
end
end Go.Proofs.YtddkbmnkbfciaaaGreatDoor
