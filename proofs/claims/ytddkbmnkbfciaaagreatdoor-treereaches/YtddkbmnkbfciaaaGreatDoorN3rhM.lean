/- What the proof stands on: N3rh, N3rj, N3ct, N3cl, N3la, T4K, T4N, T4O. -/
import Derived.Test.YtddkbmnkbfciaaaGreatDoorT4IM
import Derived.Test.YtddkbmnkbfciaaaGreatDoorT4MM
namespace Go.Proofs.YtddkbmnkbfciaaaGreatDoor
open Go.RowKit
theorem OwnZ.rest {X:List Nat} {base:Nat} {w w':World} {v:Value} {l:List Int} (h:OwnZ base w v l) (hb:Rest X w w') (hX:∀ x,x∈X→x<base):OwnZ base w' v l:=own_rest h hb hX
theorem RdB.cells {lo hi:Nat} {w:World} {g L:Nat} {B:Nat→Nat} {r:Rd} (h:RdB lo hi w g L B r):w.cell? ⟨g,1,none⟩=some (.int .i64 (r.at_:Int))∧w.cell? ⟨g,2,none⟩=some (.int .i64 r.e):=by
 obtain ⟨v,rr,-⟩:=h
 exact ⟨rr.cell (o:=1) rfl,rr.cell (o:=2) rfl⟩
structure RB (B:Nat) (X:List Nat) (w w':World):Prop where
 os:w'.os=w.os
 tape:w'.tape=w.tape
 output:w'.output=w.output
 size:w.heap.size≤w'.heap.size
 block:∀ k,k<B→k ∉ X→w'.heap[k]? = w.heap[k]?
theorem RB.refl (B:Nat) (X:List Nat) (w:World):RB B X w w:=⟨rfl,rfl,rfl,Nat.le_refl _,fun _ _ _=>rfl⟩
theorem RB.trans {B:Nat} {X:List Nat} {u v w:World} (h:RB B X u v) (k:RB B X v w):RB B X u w :=
 ⟨k.os.trans h.os,k.tape.trans h.tape,k.output.trans h.output,Nat.le_trans h.size k.size,fun i hi hb=>(k.block i hi hb).trans (h.block i hi hb)⟩
theorem RB.of_below {B C:Nat} {X:List Nat} {w w':World} (h:Below C w w') (hB:B≤C):RB B X w w':=⟨h.os,h.tape,h.output,h.size,fun k hk _=>h.block k (by omega)⟩
theorem RB.of_out {B b o n:Nat} {X:List Nat} {w w':World} (h:Out b o n w w') (hb:b∈X) (hB:B≤w.heap.size):RB B X w w':=⟨h.os,h.tape,h.output,h.size,fun k hk hn=>h.block k (by omega) (fun e=>hn (e ▸ hb))⟩
theorem RB.mono {B:Nat} {X Y:List Nat} {w w':World} (h:RB B X w w') (hs:∀ x,x∈X→x∈Y):RB B Y w w':=⟨h.os,h.tape,h.output,h.size,fun k hk hn=>h.block k hk (fun e=>hn (hs k e))⟩
theorem RB.cell {B:Nat} {X:List Nat} {w w':World} (h:RB B X w w') {c q:Nat} (hc:c<B) (hn:c ∉ X):w'.cell? ⟨c,q,none⟩=w.cell? ⟨c,q,none⟩:=World.cell?_of_block (w:=w) (h.block c hc hn)
theorem RB.frozen {B:Nat} {X:List Nat} {w w':World} (h:RB B X w w') {c q:Nat} (hc:c<B) (hn:c ∉ X):w'.frozen? ⟨c,q,none⟩=w.frozen? ⟨c,q,none⟩:=World.frozen?_of_block (w:=w) (h.block c hc hn)
end Go.Proofs.YtddkbmnkbfciaaaGreatDoor
namespace Go.Proofs.YtddkbmnkbfciaaaGreatDoor
open Go.RowKit
theorem PkIn.form {w:World} {cs:List Value} {d:PkD} (h:PkIn w cs d):∃ x0 c0 u0 u1 u2 u4 u5 x7 c7,cs=[.slice x0 d.init.n c0,u0,u1,u2,.int .i64 d.leaf.src,u4,u5,.slice x7 d.sg.n c7]∧BytesIn w (.slice x0 d.init.n c0) d.init.n d.init.b∧LfIn w [u0,u1,u2,.int .i64 d.leaf.src,u4,u5] d.leaf∧BytesIn w (.slice x7 d.sg.n c7) d.sg.n d.sg.b:=by
 obtain ⟨v0,l,v7,rfl,h0,hl,h7⟩:=h
 obtain ⟨x0,c0,rfl,-⟩:=h0.src
 obtain ⟨x7,c7,rfl,-⟩:=h7.src
 have hl':=hl
 obtain ⟨u0,u1,u2,u4,u5,rfl,-⟩:=hl
 exact ⟨x0,c0,u0,u1,u2,u4,u5,x7,c7,rfl,h0,hl',h7⟩
end Go.Proofs.YtddkbmnkbfciaaaGreatDoor
namespace Go.Proofs.YtddkbmnkbfciaaaGreatDoor
open Go.RowKit
theorem BytesIn.congr {w:World} {v:Value} {n:Nat} {a b:Nat→Nat} (h:BytesIn w v n a) (e:∀ j,j<n→a j=b j):BytesIn w v n b:=by
 rcases h with h | ⟨bb,ob,cap,h1,h2,h3,h4⟩
 · exact .inl h
 · exact .inr ⟨bb,ob,cap,h1,h2,h3,fun j hj=>by rw [h4 j hj,e j hj]⟩
theorem PutA.congr {R:Prop} {n m:Nat} {a b:Nat→Nat} {e:Ending} {w:World} (h:PutA R n a e w) (hn:n=m) (hb:∀ j,j<m→a j=b j):PutA R m b e w:=by
 subst hn
 unfold PutA at *
 split
 · rename_i hR;rw [if_pos hR] at h;obtain ⟨s,h1,h2⟩:=h;exact ⟨s,h1,h2.congr hb⟩
 · rename_i hR;rw [if_neg hR] at h;exact h
theorem FieldPut.keep {w w':World} {f:Fd} {al:Bool} {n:Nat} {b:Nat→Nat} (h:FieldPut w f al n b) (hb:Below w.heap.size w w'):FieldPut w' f al n b :=
 ⟨h.h0,h.h1,fun W hW=>h.allow W (below_next hb hW),fun ha W hW=>h.put ha W (below_next hb hW)⟩
end Go.Proofs.YtddkbmnkbfciaaaGreatDoor
namespace Go.Proofs.YtddkbmnkbfciaaaGreatDoor
open Go.RowKit
structure HB (B a b:Nat) (w w':World):Prop where
 os:w'.os=w.os
 tape:w'.tape=w.tape
 output:w'.output=w.output
 size:w.heap.size≤w'.heap.size
 block:∀ k,k<B→(k<a∨b≤k)→w'.heap[k]? = w.heap[k]?
theorem HB.refl (B a b:Nat) (w:World):HB B a b w w:=⟨rfl,rfl,rfl,Nat.le_refl _,fun _ _ _=>rfl⟩
theorem HB.trans {B a b:Nat} {u v w:World} (h:HB B a b u v) (k:HB B a b v w):HB B a b u w :=
 ⟨k.os.trans h.os,k.tape.trans h.tape,k.output.trans h.output,Nat.le_trans h.size k.size,fun i hi hb=>(k.block i hi hb).trans (h.block i hi hb)⟩
theorem HB.of_below {B a b:Nat} {w w':World} (h:Below w.heap.size w w') (hB:B≤w.heap.size):HB B a b w w':=⟨h.os,h.tape,h.output,h.size,fun k hk _=>h.block k (by omega)⟩
theorem RW.hb {B a b:Nat} {w w':World} {g o:Nat} {cs:List Value} (h:RW w g o cs) (hb:HB B a b w w') (hg:g<B) (hn:g<a∨b≤g):RW w' g o cs :=
 ⟨fun j v hv=>(World.cell?_of_block (w:=w) (hb.block g hg hn)).trans (h.range j v hv),fun j hj=>by
   rw [World.cell?_of_block (w:=w) (hb.block g hg hn),World.frozen?_of_block (w:=w) (hb.block g hg hn)];exact h.there j hj,Nat.lt_of_lt_of_le h.lt hb.size⟩
theorem FR.hb {B a b:Nat} {w w':World} {g:Nat} {fs:List Fd} (h:FR w g fs) (hb:HB B a b w w') (hg:g<B) (hn:g<a∨b≤g):FR w' g fs:=⟨Nat.lt_of_lt_of_le h.lt hb.size,fun k f hk j v hv=>(World.cell?_of_block (w:=w) (hb.block g hg hn)).trans (h.at_ k f hk j v hv)⟩
theorem Bxs.hb {B a b lo hi:Nat} {w w':World} {L:List (Nat × List Value)} (h:Bxs lo hi w L) (hb:HB B a b w w') (h1:hi≤B) (h2:hi≤a∨b≤lo):Bxs lo hi w' L:=fun x hx=>by
 obtain ⟨c1,c2,r⟩:=h x hx
 exact ⟨c1,c2,r.hb hb (by omega) (by omega)⟩
theorem HB.below {B a b C:Nat} {w w':World} (h:HB B a b w w') (h1:C≤B) (h2:C≤a):Below C w w':=⟨h.os,h.tape,h.output,h.size,fun k hk=>h.block k (by omega) (.inl (by omega))⟩
end Go.Proofs.YtddkbmnkbfciaaaGreatDoor
namespace Go.Proofs.YtddkbmnkbfciaaaGreatDoor
open Go.RowKit
def ZIx (w:World) (v:Value) (l:List Int):Prop:=∃ x c,v = .slice x l.length c∧(x=none→c=0)∧∀ i z,l[i]? = some z→∃ g o,x=some ⟨g,o,none⟩∧g<w.heap.size∧w.cell? ⟨g,o+i,none⟩=some (.int .i64 z)
theorem ZIx.zin {w:World} {v:Value} {l:List Int} (h:ZIx w v l):ZIn w v l:=by obtain ⟨x,c,e,-,h⟩:=h;exact ⟨x,c,e,h⟩
theorem ZIx.keep {w w':World} {v:Value} {l:List Int} (h:ZIx w v l) (hb:Below w.heap.size w w'):ZIx w' v l:=by
 obtain ⟨x,c,e,hx,h⟩:=h
 refine ⟨x,c,e,hx,fun i z hz => ?_⟩
 obtain ⟨g,o,e2,hg,hc⟩:=h i z hz
 exact ⟨g,o,e2,Nat.lt_of_lt_of_le hg hb.size,(hb.cell (p:=⟨g,o+i,none⟩) hg).trans hc⟩
def lfL (d:LfD):Prop:=d.enc.n<140737488355000∧d.sig.n<140737488355000∧d.name.n<140737488355000∧d.hash.n<140737488355000∧d.sg.n<140737488355000
theorem infoL6:(Tryz.prog.info? 54).map (·.size)=some 6:=by kernel_rfl
theorem LfIn.form {w:World} {cs:List Value} {d:LfD} (h:LfIn w cs d):∃ x0 c0 x1 c1 x2 c2 x4 c4 x5 c5,cs=[.slice x0 d.enc.n c0,.slice x1 d.sig.n c1,.slice x2 d.name.n c2,.int .i64 d.src,.slice x4 d.hash.n c4,.slice x5 d.sg.n c5]∧BytesIn w (.slice x0 d.enc.n c0) d.enc.n d.enc.b∧BytesIn w (.slice x1 d.sig.n c1) d.sig.n d.sig.b∧BytesIn w (.slice x2 d.name.n c2) d.name.n d.name.b∧BytesIn w (.slice x4 d.hash.n c4) d.hash.n d.hash.b∧BytesIn w (.slice x5 d.sg.n c5) d.sg.n d.sg.b:=by
 obtain ⟨v0,v1,v2,v4,v5,rfl,h0,h1,h2,h4,h5⟩:=h
 obtain ⟨x0,c0,rfl,-⟩:=h0.src
 obtain ⟨x1,c1,rfl,-⟩:=h1.src
 obtain ⟨x2,c2,rfl,-⟩:=h2.src
 obtain ⟨x4,c4,rfl,-⟩:=h4.src
 obtain ⟨x5,c5,rfl,-⟩:=h5.src
 exact ⟨x0,c0,x1,c1,x2,c2,x4,c4,x5,c5,rfl,h0,h1,h2,h4,h5⟩
end Go.Proofs.YtddkbmnkbfciaaaGreatDoor
namespace Go.Proofs.YtddkbmnkbfciaaaGreatDoor
open Go.RowKit Go.Shelf
set_option maxRecDepth 20000 in
set_option maxHeartbeats 1000000 in
theorem ownLeafO_any (cs:List Value) (d:LfD) (hl:lfL d) (w:World) (hd:LfIn w cs d):Calls Tryz.prog 90 #[.agg cs.toArray] w fun e w'=>∃ y0 e0 y1 e1 y2 e2 y4 e4 y5 e5,e = .returned (.agg #[.slice y0 d.enc.n e0,.slice y1 d.sig.n e1,.slice y2 d.name.n e2,.int .i64 d.src,.slice y4 d.hash.n e4,.slice y5 d.sg.n e5])∧Own w.heap.size w' (.slice y0 d.enc.n e0) d.enc.n d.enc.b∧Own w.heap.size w' (.slice y1 d.sig.n e1) d.sig.n d.sig.b∧Own w.heap.size w' (.slice y2 d.name.n e2) d.name.n d.name.b∧Own w.heap.size w' (.slice y4 d.hash.n e4) d.hash.n d.hash.b∧Own w.heap.size w' (.slice y5 d.sg.n e5) d.sg.n d.sg.b∧Below w.heap.size w w':=by
 obtain ⟨x0,c0,x1,c1,x2,c2,x4,c4,x5,c5,rfl,h0,h1,h2,h4,h5⟩:=hd.form
 clear hd
 obtain ⟨hl0,hl1,hl2,hl4,hl5⟩:=hl
 have k1:=RW.fresh w [.slice x0 d.enc.n c0,.slice x1 d.sig.n c1,.slice x2 d.name.n c2,.int .i64 d.src,.slice x4 d.hash.n c4,.slice x5 d.sg.n c5] 117
 have b1:Below w.heap.size w (w.alloc (.cells #[.slice x0 d.enc.n c0,.slice x1 d.sig.n c1,.slice x2 d.name.n c2,.int .i64 d.src,.slice x4 d.hash.n c4,.slice x5 d.sg.n c5] 117)):=(Below.refl _ _).alloc (Nat.le_refl _) _
 have s1:(w.alloc (.cells #[.slice x0 d.enc.n c0,.slice x1 d.sig.n c1,.slice x2 d.name.n c2,.int .i64 d.src,.slice x4 d.hash.n c4,.slice x5 d.sg.n c5] 117)).heap.size=w.heap.size+1:=by simp
 obtain ⟨W1,hW1⟩:∃ W1,W1=w.alloc (.cells #[.slice x0 d.enc.n c0,.slice x1 d.sig.n c1,.slice x2 d.name.n c2,.int .i64 d.src,.slice x4 d.hash.n c4,.slice x5 d.sg.n c5] 117):=⟨_,rfl⟩
 rw [show w.alloc (.cells ([.slice x0 d.enc.n c0,.slice x1 d.sig.n c1,.slice x2 d.name.n c2,.int .i64 d.src,.slice x4 d.hash.n c4,.slice x5 d.sg.n c5]).toArray 117)=W1 from hW1.symm] at k1
 rw [←hW1] at b1 s1
 have k2:=RW.fresh W1 [.slice none 0 0,.slice none 0 0,.slice none 0 0,.int .i64 0,.slice none 0 0,.slice none 0 0] 54
 have b2:Below W1.heap.size W1 (W1.alloc (.cells #[.slice none 0 0,.slice none 0 0,.slice none 0 0,.int .i64 0,.slice none 0 0,.slice none 0 0] 54)):=(Below.refl _ _).alloc (Nat.le_refl _) _
 have s2:(W1.alloc (.cells #[.slice none 0 0,.slice none 0 0,.slice none 0 0,.int .i64 0,.slice none 0 0,.slice none 0 0] 54)).heap.size=W1.heap.size+1:=by simp
 obtain ⟨W,hW⟩:∃ W,W=W1.alloc (.cells #[.slice none 0 0,.slice none 0 0,.slice none 0 0,.int .i64 0,.slice none 0 0,.slice none 0 0] 54):=⟨_,rfl⟩
 rw [show W1.alloc (.cells [.slice none 0 0,.slice none 0 0,.slice none 0 0,.int .i64 0,.slice none 0 0,.slice none 0 0].toArray 54)=W from hW.symm] at k2
 rw [←hW] at b2 s2
 rw [s1] at k2 s2
 have HW:Hid (W=(w.alloc (.cells #[.slice x0 d.enc.n c0,.slice x1 d.sig.n c1,.slice x2 d.name.n c2,.int .i64 d.src,.slice x4 d.hash.n c4,.slice x5 d.sg.n c5] 117)).alloc (.cells #[.slice none 0 0,.slice none 0 0,.slice none 0 0,.int .i64 0,.slice none 0 0,.slice none 0 0] 54)):=Hid.mk' (by rw [hW,hW1])
 have bd:Below W.heap.size W W.drew:=(Below.refl _ _).drew
 have bV:=below_next (below_next b1 b2) bd
 have K1:=Hid.mk' ((k1.still b2).still bd)
 have K2:=Hid.mk' (k2.still bd)
 have D0:=Hid.mk' (h0.keep bV)
 have D1:=Hid.mk' (h1.keep bV)
 have D2:=Hid.mk' (h2.keep bV)
 have D4:=Hid.mk' (h4.keep bV)
 have D5:=Hid.mk' (h5.keep bV)
 have sV:W.drew.heap.size=w.heap.size+1+1:=s2
 have SV:=Hid.mk' sV
 clear hW hW1 k1 k2 b1 b2 s1 s2 h0 h1 h2 h4 h5 bd sV
 go_enter Tryz.func90,Tryz.ntmps90
 go_upto_region 1 with (fail)
 rw [←HW.out]
 refine wp_last 18 (S:=fun u=>Below W.drew.heap.size W.drew u) (by kernel_rfl) (by kernel_rfl) (by kernel_rfl) (by kernel_rfl) (Below.refl _ _) (fun hS => ?_)
 clear HW
 generalize W.drew=V at *
 refine tg 0 hS (v:=pA w.heap.size 0) ?_ (hy:=by intro u _;kernel_rfl)
 (try simp only [pS])
 refine tc 1 hS (fun u hu=>(hu.cell (p:=⟨w.heap.size,0,none⟩) K1.out.lt).trans (K1.out.cell (o:=0) rfl)) ?_
 (try simp only [pS])
 refine tg 3 hS (v:=pA w.heap.size 1) ?_ (hy:=by intro u _;kernel_rfl)
 (try simp only [pS])
 refine tc 4 hS (fun u hu=>(hu.cell (p:=⟨w.heap.size,1,none⟩) K1.out.lt).trans (K1.out.cell (o:=1) rfl)) ?_
 (try simp only [pS])
 refine tg 6 hS (v:=pA w.heap.size 2) ?_ (hy:=by intro u _;kernel_rfl)
 (try simp only [pS])
 refine tc 7 hS (fun u hu=>(hu.cell (p:=⟨w.heap.size,2,none⟩) K1.out.lt).trans (K1.out.cell (o:=2) rfl)) ?_
 (try simp only [pS])
 refine tg 9 hS (v:=pA w.heap.size 3) ?_ (hy:=by intro u _;kernel_rfl)
 (try simp only [pS])
 refine tc 10 hS (fun u hu=>(hu.cell (p:=⟨w.heap.size,3,none⟩) K1.out.lt).trans (K1.out.cell (o:=3) rfl)) ?_
 (try simp only [pS])
 refine tg 11 hS (v:=pA w.heap.size 4) ?_ (hy:=by intro u _;kernel_rfl)
 (try simp only [pS])
 refine tc 12 hS (fun u hu=>(hu.cell (p:=⟨w.heap.size,4,none⟩) K1.out.lt).trans (K1.out.cell (o:=4) rfl)) ?_
 (try simp only [pS])
 refine tg 14 hS (v:=pA w.heap.size 5) ?_ (hy:=by intro u _;kernel_rfl)
 (try simp only [pS])
 refine tc 15 hS (fun u hu=>(hu.cell (p:=⟨w.heap.size,5,none⟩) K1.out.lt).trans (K1.out.cell (o:=5) rfl)) ?_
 (try simp only [pS])
 refine cl 2 (bclone_any _ d.enc.n d.enc.b (Nat.le_of_lt hl0) V (D0.out.keep hS)) (fun e w1 hr => ?_)
 obtain ⟨s0,rfl,o0,hb⟩:=hr
 replace o0:=o0.base hS.size
 replace hS:=below_next hS hb
 obtain ⟨y0,e0,rfl⟩:=o0.slice
 refine ⟨_,rfl,hS,?_⟩
 (try simp only [pS])
 refine cl 5 (bclone_any _ d.sig.n d.sig.b (Nat.le_of_lt hl1) w1 (D1.out.keep hS)) (fun e w2 hr => ?_)
 obtain ⟨s1,rfl,o1,hb⟩:=hr
 replace o1:=o1.base hS.size
 replace hS:=below_next hS hb
 replace o0:=o0.below hb
 obtain ⟨y1,e1,rfl⟩:=o1.slice
 refine ⟨_,rfl,hS,?_⟩
 (try simp only [pS])
 refine cl 8 (bclone_any _ d.name.n d.name.b (Nat.le_of_lt hl2) w2 (D2.out.keep hS)) (fun e w3 hr => ?_)
 obtain ⟨s2,rfl,o2,hb⟩:=hr
 replace o2:=o2.base hS.size
 replace hS:=below_next hS hb
 replace o0:=o0.below hb
 replace o1:=o1.below hb
 obtain ⟨y2,e2,rfl⟩:=o2.slice
 refine ⟨_,rfl,hS,?_⟩
 (try simp only [pS])
 refine cl 13 (bclone_any _ d.hash.n d.hash.b (Nat.le_of_lt hl4) w3 (D4.out.keep hS)) (fun e w4 hr => ?_)
 obtain ⟨s4,rfl,o4,hb⟩:=hr
 replace o4:=o4.base hS.size
 replace hS:=below_next hS hb
 replace o0:=o0.below hb
 replace o1:=o1.below hb
 replace o2:=o2.below hb
 obtain ⟨y4,e4,rfl⟩:=o4.slice
 refine ⟨_,rfl,hS,?_⟩
 (try simp only [pS])
 refine cl 16 (bclone_any _ d.sg.n d.sg.b (Nat.le_of_lt hl5) w4 (D5.out.keep hS)) (fun e w5 hr => ?_)
 obtain ⟨s5,rfl,o5,hb⟩:=hr
 replace o5:=o5.base hS.size
 replace hS:=below_next hS hb
 replace o0:=o0.below hb
 replace o1:=o1.below hb
 replace o2:=o2.below hb
 replace o4:=o4.below hb
 obtain ⟨y5,e5,rfl⟩:=o5.slice
 refine ⟨_,rfl,hS,?_⟩
 (try simp only [pS])
 refine tg 17 hS (v := .agg #[.slice y0 d.enc.n e0,.slice y1 d.sig.n e1,.slice y2 d.name.n e2,.int .i64 d.src,.slice y4 d.hash.n e4,.slice y5 d.sg.n e5]) ?_ (hy:=by intro u _;kernel_rfl)
 (try simp only [pS])
 refine wpAnyH_done (by kernel_rfl) ?_ _
 have k2:=K2.out.still hS
 refine lastRow 18 54 2 20 [.slice y0 d.enc.n e0,.slice y1 d.sig.n e1,.slice y2 d.name.n e2,.int .i64 d.src,.slice y4 d.hash.n e4,.slice y5 d.sg.n e5] k2 rfl infoL6 (by simp [Value.oneCell']) (fun rr => ?_)
 refine NoPanic.normal ?_
 go_wp2
 refine bodyPost_ret (results_cell_mid Tryz.results90 _ _ (w.heap.size+1) 0 [.slice y0 d.enc.n e0,.slice y1 d.sig.n e1,.slice y2 d.name.n e2,.int .i64 d.src,.slice y4 d.hash.n e4,.slice y5 d.sg.n e5] _ rfl rr.range Tryz.underlying54 rfl infoL6) rfl ?_
 have x9:Rest [w.heap.size+1] w5 (w5.setCells (w.heap.size+1) 0 [.slice y0 d.enc.n e0,.slice y1 d.sig.n e1,.slice y2 d.name.n e2,.int .i64 d.src,.slice y4 d.hash.n e4,.slice y5 d.sg.n e5]):=Rest.of_out (Out.setCells (b:=w.heap.size+1) (o:=0) (n:=6) w5 _ (Nat.le_refl _) (Nat.le_refl _)) (by simp)
 have hx:∀ x,x∈[w.heap.size+1]→x<V.heap.size:=fun x hx=>by simp at hx;have:=SV.out;omega
 have hV:w.heap.size≤V.heap.size:=bV.size
 exact ⟨y0,e0,y1,e1,y2,e2,y4,e4,y5,e5,rfl,(o0.rest x9 hx).base hV,(o1.rest x9 hx).base hV,(o2.rest x9 hx).base hV,(o4.rest x9 hx).base hV,(o5.rest x9 hx).base hV,(below_next bV hS).trans (x9.below (fun x hx=>by simp at hx;omega) (below_next bV hS).size)⟩
end Go.Proofs.YtddkbmnkbfciaaaGreatDoor
namespace Go.Proofs.YtddkbmnkbfciaaaGreatDoor
open Go.RowKit Go.Shelf
def insZ (l:List Int) (x:Int):List Int:=if x∈l then l else insK l (lesN l x) x
theorem PrO.form {ok:Nat→Prop} {w:World} {cs:List Value} {d:PrD} (h:PrO ok w cs d):∃ x0 c0 x1 c1 x2 c2,cs=[.slice x0 d.enc.n c0,.slice x1 d.hash.n c1,.slice x2 d.um.length c2]∧BO ok w (.slice x0 d.enc.n c0) d.enc.n d.enc.b∧BO ok w (.slice x1 d.hash.n c1) d.hash.n d.hash.b∧ZO ok w (.slice x2 d.um.length c2) d.um:=by
 obtain ⟨v0,v1,v2,rfl,h0,h1,h2⟩:=h
 obtain ⟨x0,c0,rfl,-⟩:=h0.of.src
 obtain ⟨x1,c1,rfl,-⟩:=h1.of.src
 obtain ⟨x2,c2,rfl,-⟩:=id h2
 exact ⟨x0,c0,x1,c1,x2,c2,rfl,h0,h1,h2⟩
theorem RW.set2 {w:World} {g:Nat} {a b c:Value} (h:RW w g 0 [a,b,c]) (v:Value):RW (w.setCell ⟨g,2,none⟩ v) g 0 [a,b,v]:=by
 have h1:RW w g 0 ([a,b] ++ [c]):=h
 have k1:=h1.left.far g 2 [v] (.inr (.inl (Nat.le_refl _)))
 have k2:=h1.right.stored [v] rfl
 exact k1.join k2
theorem RW.set2o {w:World} {g b:Nat} {cs:List Value} (h:RW w g 0 cs) (hne:g≠b) (o:Nat) (v:Value):RW (w.setCell ⟨b,o,none⟩ v) g 0 cs:=h.far b o [v] (.inl hne)
set_option maxRecDepth 20000 in
set_option maxHeartbeats 4000000 in
theorem withUnmerged_any (ok:Nat→Prop) (cs:List Value) (d:PrD) (i:Int) (hr:Rises d.um) (hl:d.um.length≤1000) (w:World) (hd:PrO ok w cs d) :
 Calls Tryz.prog 98 #[.agg cs.toArray,.int .i64 i] w fun e w'=>∃ cs',e = .returned (.agg cs'.toArray)∧PrO (fun b=>ok b∨w.heap.size≤b) w' cs' { d with um:=insZ d.um i }∧Below w.heap.size w w':=by
 obtain ⟨x0,c0,x1,c1,x2,c2,rfl,h0,h1,h2⟩:=hd.form
 clear hd
 have k1:=RW.fresh w [.slice x0 d.enc.n c0,.slice x1 d.hash.n c1,.slice x2 d.um.length c2] 121
 have b1:Below w.heap.size w (w.alloc (.cells #[.slice x0 d.enc.n c0,.slice x1 d.hash.n c1,.slice x2 d.um.length c2] 121)):=(Below.refl _ _).alloc (Nat.le_refl _) _
 obtain ⟨W1,hW1⟩:∃ W1,W1=w.alloc (.cells #[.slice x0 d.enc.n c0,.slice x1 d.hash.n c1,.slice x2 d.um.length c2] 121):=⟨_,rfl⟩
 rw [show w.alloc (.cells [Value.slice x0 d.enc.n c0,.slice x1 d.hash.n c1,.slice x2 d.um.length c2].toArray 121)=W1 from hW1.symm] at k1
 rw [←hW1] at b1
 have s1:W1.heap.size=w.heap.size+1:=by rw [hW1];simp
 have k2:=RW.fresh W1 zPr 121
 obtain ⟨W2,hW2⟩:∃ W2,W2=W1.alloc (.cells #[.slice none 0 0,.slice none 0 0,.slice none 0 0] 121):=⟨_,rfl⟩
 have b2:Below W1.heap.size W1 W2:=by rw [hW2];exact (Below.refl _ _).alloc (Nat.le_refl _) _
 rw [show W1.alloc (.cells zPr.toArray 121)=W2 from hW2.symm] at k2
 have s2:W2.heap.size=w.heap.size+1+1:=by rw [hW2];simp [s1]
 rw [s1] at k2
 replace k1:=k1.still b2
 have bw:=below_next b1 b2
 have G0:=Hid.mk' h0
 have G1:=Hid.mk' h1
 have G2:=Hid.mk' h2
 have H2:=Hid.mk' (h2.same bw.size (fun b hb _=>bw.block b hb))
 have cS:=search_any (.slice x2 d.um.length c2) d.um i hl hr W2 H2.out
 have cC:=fun W (hb:Below W2.heap.size W2 W)=>zclone_any (.slice x2 d.um.length c2) d.um (by omega) W (H2.out.keep hb)
 have HW1:=Hid.mk' hW1
 have HW2:=Hid.mk' hW2
 have c2':=k1.range 2 _ rfl
 have hle:=lesN_le d.um i
 clear hW1 hW2 h0 h1 h2 b1 b2
 have t2:=k2.there
 have hi3:∀ A:Array Value,A.size=3→(Tryz.prog.info? 121).map (·.size)=some A.size:=fun A h=>iszP A h
 have bw2:w.heap.size≤W2.heap.size:=bw.size
 by_cases hin:i∈d.um
 · rw [decide_eq_true hin] at cS
   have eu:insZ d.um i=d.um:=by unfold insZ;rw [if_pos hin]
   have st:=k2.stored [.slice x0 d.enc.n c0,.slice x1 d.hash.n c1,.slice x2 d.um.length c2] rfl
   have bst:Below w.heap.size w (W2.setCells (w.heap.size+1) 0 [.slice x0 d.enc.n c0,.slice x1 d.hash.n c1,.slice x2 d.um.length c2]):=below_setCells (by omega) _ _ _ bw
   clear cC
   go_enter Tryz.func98,Tryz.ntmps98
   go_wp2_with (first
    | (rw [←HW1.out];clear HW1)
    | (rw [←HW2.out];clear HW2)
    | (go_at_call 167;refine cS.mono ?_;clear cS;rintro e w1 ⟨rfl,rfl⟩)
    | (refine wpList_load_mid rfl 121 _ rfl w.heap.size 0 rfl _ _ k1.range Tryz.underlying121 rfl (hi3 _ rfl) ?_)
    | (refine wpList_store_mid rfl 121 _ _ rfl (w.heap.size+1) 0 _ rfl rfl t2 (hi3 _ rfl) (by simp [Value.oneCell']) ?_))
   refine bodyPost_ret (results_cell_mid rfl _ _ (w.heap.size+1) 0 _ _ rfl st.range Tryz.underlying121 rfl (hi3 _ rfl)) rfl ?_
   refine ⟨_,rfl,?_,bst⟩
   rw [eu]
   exact ⟨_,_,_,rfl,(G0.out.same bst.size (fun b hb _=>bst.block b hb)).wide (fun b _ h => .inl h),(G1.out.same bst.size (fun b hb _=>bst.block b hb)).wide (fun b _ h => .inl h),(G2.out.same bst.size (fun b hb _=>bst.block b hb)).wide (fun b _ h => .inl h)⟩
 · rw [decide_eq_false hin] at cS
   have eu:insZ d.um i=insK d.um (lesN d.um i) i:=by unfold insZ;rw [if_neg hin]
   have cI:=fun W v hv=>insert_any W2.heap.size v d.um (lesN d.um i) hle i hl W hv
   have f22:=(k1.there 2 (by simp)).2
   rw [Nat.zero_add] at f22
   go_enter Tryz.func98,Tryz.ntmps98
   go_wp2_with (first
    | (rw [←HW1.out];clear HW1)
    | (rw [←HW2.out];clear HW2)
    | (go_at_call 167;refine cS.mono ?_;clear cS;rintro e w1 ⟨rfl,rfl⟩)
    | (go_at_call 163;refine (cC _ (Below.refl _ _)).mono ?_;clear cC;rintro e w3 ⟨s3,rfl,o3,b3⟩;(have bs3:=b3.size);(have k13:=k1.still b3);(have c23:=k13.range 2 _ rfl))
    | (go_at_call 168;refine (cI w3 s3 o3 bs3).mono ?_;clear cI;rintro e w4 ⟨s4,rfl,o4,b4⟩;(obtain ⟨x4,c4,rfl⟩:=o4.slice);(have b34:Below w1.heap.size w1 w4:=b3.trans b4);(have k14:=k1.still b34);(have k24:=k2.still b34);(have f24:=(k14.there 2 (by simp)).2);(rw [Nat.zero_add] at f24);(have c24:=k14.range 2 _ rfl);(rw [Nat.zero_add] at c24);(have k15:=k14.set2 (.slice x4 (insK d.um (lesN d.um i) i).length c4));(have k25:=(k24.set2o (b:=w.heap.size) (by omega) 2 (.slice x4 (insK d.um (lesN d.um i) i).length c4)));(have t25:=k25.there);(have r15:=k15.range);clear k13 c23)
    | (refine wpList_load_mid rfl 121 _ rfl w.heap.size 0 rfl _ _ r15 Tryz.underlying121 rfl (hi3 _ rfl) ?_)
    | (refine wpList_store_mid rfl 121 _ _ rfl (w.heap.size+1) 0 _ rfl rfl t25 (hi3 _ rfl) (by simp [Value.oneCell']) ?_))
   have st:=k25.stored [.slice x0 d.enc.n c0,.slice x1 d.hash.n c1,.slice x4 (insK d.um (lesN d.um i) i).length c4] rfl
   refine bodyPost_ret (results_cell_mid rfl _ _ (w.heap.size+1) 0 _ _ rfl st.range Tryz.underlying121 rfl (hi3 _ rfl)) rfl ?_
   have b4':Below w.heap.size w w4:=below_next bw b34
   have bst:Below w.heap.size w ((w4.setCell ⟨w.heap.size,2,none⟩ (.slice x4 (insK d.um (lesN d.um i) i).length c4)).setCells (w.heap.size+1) 0 [.slice x0 d.enc.n c0,.slice x1 d.hash.n c1,.slice x4 (insK d.um (lesN d.um i) i).length c4]):=below_setCells (by omega) _ _ _ (b4'.setCell (Nat.le_refl _) _)
   refine ⟨_,rfl,?_,bst⟩
   rw [eu]
   have hz:ZO (fun b=>w1.heap.size≤b) w4 (.slice x4 (insK d.um (lesN d.um i) i).length c4) (insK d.um (lesN d.um i) i):=ZO.own o4
   refine ⟨_,_,_,rfl,(G0.out.same bst.size (fun b hb _=>bst.block b hb)).wide (fun b _ h => .inl h),(G1.out.same bst.size (fun b hb _=>bst.block b hb)).wide (fun b _ h => .inl h),(hz.same (by rw [(setCells_same _ _ _ _).2.2.2];simp) (fun b hb h => ?_)).wide (fun b _ h => .inr (by omega))⟩
   rw [heap_setCells_other _ _ _ _ _ (by omega)]
   exact Below.heap_setCell _ _ _ _ (by show b≠w.heap.size;omega)
end Go.Proofs.YtddkbmnkbfciaaaGreatDoor
namespace Go.Proofs.YtddkbmnkbfciaaaGreatDoor
open Go.RowKit Go.Shelf
theorem iszL54 (A:Array Value) (h:A.size=6):(Tryz.prog.info? 54).map (·.size)=some A.size:=by rw [h];kernel_rfl
theorem LfIn.row {w:World} {cs:List Value} {d:LfD} (h:LfIn w cs d):cs.length=6∧cs.toArray.all (·.oneCell')=true:=by
 obtain ⟨x0,c0,x1,c1,x2,c2,x4,c4,x5,c5,rfl,-⟩:=h.form
 exact ⟨rfl,by rw [List.all_toArray];simp [Value.oneCell']⟩
set_option maxRecDepth 20000 in
theorem mayBe_any (cs:List Value) (d:LfD) (w:World) (hd:LfIn w cs d):Calls Tryz.prog 94 #[.agg cs.toArray] w fun e w'=>∃ b:Bool,e = .returned (.bool b)∧(b=true↔lfR d 3)∧Below w.heap.size w w':=by
 have b1:Below w.heap.size w (w.alloc (.cells cs.toArray 54)):=(Below.refl _ _).alloc (Nat.le_refl _) _
 have k1:=RW.fresh w cs 54
 have r1:=k1.range
 have hp:=putLeaf_any cs d _ (hd.keep b1)
 have hi:(Tryz.prog.info? 54).map (·.size)=some cs.length:=by rw [hd.row.1];kernel_rfl
 have h6:=hd.row.1
 clear hd
 go_enter Tryz.func94,Tryz.ntmps94
 go_wp2_with (first
  | (refine wpList_load_mid rfl 54 _ rfl w.heap.size 0 rfl cs _ r1 Tryz.underlying54 rfl hi ?_)
  | (go_at_call 164;refine hp.mono ?_;clear hp;rintro e w1 ⟨hb,hP⟩;(obtain ⟨s,z,rfl⟩:=hP.form)))
 go_ret
 refine ⟨_,rfl,?_,below_next b1 hb⟩
 by_cases hR:lfR d 3
 · unfold PutA at hP
   rw [if_pos hR] at hP
   obtain ⟨s',e,-⟩:=hP
   cases e
   simp [hR]
 · unfold PutA at hP
   rw [if_neg hR] at hP
   cases hP
   simp [hR]
theorem widen_any (tb:Nat) (n:Nat) (hn:n≤64) (w:World) (hc:w.cell? ⟨tb,0,none⟩=some (.int .i64 (n:Int))) (hf:w.frozen? ⟨tb,0,none⟩=false):Calls Tryz.prog 76 #[pA tb 0] w fun e w'=>(n=64∧e = .returned (.bool false)∧w'=w)∨(n≠64∧e = .returned (.bool true)∧w'=w.setCell ⟨tb,0,none⟩ (.int .i64 ((2*n:Nat):Int))):=by
 by_cases h:n=64
 · subst h
   go_enter Tryz.func76,Tryz.ntmps76
   go_wp2
   go_ret
   simp
 · have h':((n:Int) == 64)=false:=by simp;omega
   have e1:wrap64 ((n:Int)*2)=((2*n:Nat):Int):=by unfold wrap64;omega
   go_enter Tryz.func76,Tryz.ntmps76
   go_wp2
   go_ret
   exact .inr ⟨h,rfl,by rw [Int.mul_comm];simp⟩
def delL (F:Int→Option Nd):List Int→Int→Option Nd
 | []=>F
 | x :: r=>delL (upn F x none) r
theorem delL_append (r:List Int) (x:Int):∀ F,delL F (r ++ [x])=upn (delL F r) x none:=by
 induction r with
 | nil=>intro F;rfl
 | cons y r ih=>intro F;exact ih _
theorem delL_at (l:List Int):∀ (F:Int→Option Nd) (x:Int),delL F l x=if x∈l then none else F x:=by
 induction l with
 | nil=>intro F x;simp [delL]
 | cons y r ih =>
  intro F x
  show delL (upn F y none) r x=_
  rw [ih]
  unfold upn
  by_cases h1:x∈r
  · simp [h1]
  · by_cases h2:x=y
    · simp [h2]
    · simp [h1,h2]
theorem mdel_any {w:World} {b:Nat} {f:Int→Option Value} (h:MpAt w b f) (k:Int) (ty:TypeId):∃ w',(Builtin.delete_ #[69,3] ty #[.map (some b),.int .i64 k]).run Tryz.prog w = .ok (.tuple #[]) w'∧MpAt w' b (upm f k none)∧But (fun j=>j=b) w w'∧w'.heap.size=w.heap.size:=mp_del h und_map und_int k
theorem mput_any {w:World} {b:Nat} {f:Int→Option Value} (h:MpAt w b f) (k:Int) (v:Value):∃ w',(Instr.mapUpdate 69 (.map (some b)) (.int .i64 k) v).run Tryz.prog w = .ok () w'∧MpAt w' b (upm f k (some v))∧But (fun j=>j=b) w w'∧w'.heap.size=w.heap.size:=mp_put h und_map und_int k v
theorem TrAt.del {ok:Nat→Prop} {w:World} {tb mb:Nat} {T:Tr} (h:TrAt ok w tb mb T) (k:Int) (ty:TypeId):∃ w',(Builtin.delete_ #[69,3] ty #[.map (some mb),.int .i64 k]).run Tryz.prog w = .ok (.tuple #[]) w'∧TrAt ok w' tb mb ⟨T.n,upn T.nd k none⟩∧But (fun j=>j=mb) w w'∧w'.heap.size=w.heap.size:=by
 obtain ⟨f,h1,h2⟩:=h.mp
 obtain ⟨w',hr,hm,hb,hs⟩:=mdel_any h1 k ty
 have et:=hb.block tb h.tlt h.ne
 exact ⟨w',hr,⟨(World.cell?_of_block (w:=w) et).trans h.lv,(World.frozen?_of_block (w:=w) et).trans h.lf,(World.cell?_of_block (w:=w) et).trans h.st,⟨_,hm,(h2.del k).same hb.size (fun b hl ho=>hb.block b hl (fun e=>h.nmb (e ▸ ho)))⟩,h.ntb,h.nmb⟩,hb,hs⟩
theorem TrAt.put {ok:Nat→Prop} {w:World} {tb mb:Nat} {T:Tr} (h:TrAt ok w tb mb T) (k:Int) (v:Value) {d:Nd} (hd:NdO ok w v d):∃ w',(Instr.mapUpdate 69 (.map (some mb)) (.int .i64 k) v).run Tryz.prog w = .ok () w'∧TrAt ok w' tb mb ⟨T.n,upn T.nd k (some d)⟩∧But (fun j=>j=mb) w w'∧w'.heap.size=w.heap.size:=by
 obtain ⟨f,h1,h2⟩:=h.mp
 obtain ⟨w',hr,hm,hb,hs⟩:=mput_any h1 k v
 have et:=hb.block tb h.tlt h.ne
 exact ⟨w',hr,⟨(World.cell?_of_block (w:=w) et).trans h.lv,(World.frozen?_of_block (w:=w) et).trans h.lf,(World.cell?_of_block (w:=w) et).trans h.st,⟨_,hm,(h2.put k hd).same hb.size (fun b hl ho=>hb.block b hl (fun e=>h.nmb (e ▸ ho)))⟩,h.ntb,h.nmb⟩,hb,hs⟩
theorem TrAt.wide {ok ok':Nat→Prop} {w:World} {tb mb:Nat} {T:Tr} (h:TrAt ok w tb mb T) (e:∀ b,b<w.heap.size→ok b→ok' b) (h1:¬ok' tb) (h2:¬ok' mb):TrAt ok' w tb mb T:=by
 obtain ⟨f,h3,h4⟩:=h.mp
 exact ⟨h.lv,h.lf,h.st,⟨f,h3,h4.wide e⟩,h1,h2⟩
theorem But.of_below {bad:Nat→Prop} {w w':World} (h:Below w.heap.size w w'):But bad w w':=⟨h.os,h.tape,h.output,h.size,fun k hk _=>h.block k hk⟩
set_option maxRecDepth 20000 in
set_option maxHeartbeats 4000000 in
theorem blankAbove_any (ok:Nat→Prop) (tb mb:Nat) (T:Tr) (i:Int) (w:World) (hT:DbT w) (h:TrAt ok w tb mb T):Calls Tryz.prog 103 #[pA tb 0,.int .i64 i] w fun e w'=>(∃ v,e = .returned v)∧TrAt ok w' tb mb ⟨T.n,delL T.nd (pathL i T.n)⟩∧But (fun j=>j=mb) w w':=by
 have cP:=iPathO_any i T.n w hT
 have hxl:=pathL_len i T.n
 have c0:=h.lv
 generalize pathL i T.n=xs at *
 go_enter Tryz.func103,Tryz.ntmps103
 go_wp2_with (go_at_call 166;refine cP.mono ?_;clear cP;rintro e w1 ⟨v,rfl,hv,hb1⟩;(obtain ⟨xa,ca,rfl⟩:=hv.slice))
 have hz:=ZO.own hv
 clear hv c0
 replace hz:ZO (fun b=>w.heap.size≤b) w1 (.slice xa xs.length ca) xs:=hz
 have h1:=h.below hb1
 have hmb:=h.mlt
 clear h hT
 go_loopw [13] (fun s wr=>∃ k:Nat,k≤xs.length∧s = .int .i64 (k:Int)∧ZO (fun b=>w.heap.size≤b) wr (.slice xa xs.length ca) xs∧TrAt ok wr tb mb ⟨T.n,delL T.nd (xs.take k)⟩∧But (fun j=>j=mb) w wr) (fun s _=>xs.length - (intOf s).toNat)
 case atStart=>exact ⟨0,Nat.zero_le _,rfl,hz,h1,But.of_below hb1⟩
 case round =>
  clear hz h1 hb1
  obtain ⟨k,hk,rfl,hz,hTr,hbt⟩:=hrel
  by_cases hlt:k<xs.length
  · obtain ⟨x,hx⟩:∃ x,xs[k]? = some x:=⟨_,List.getElem?_eq_getElem hlt⟩
    have hlt':(k:Int)<(xs.length:Int):=by omega
    have hk0:(0:Int)≤(k:Int):=by omega
    obtain ⟨xa',ca',e,hca,-,hzc⟩:=id hz
    cases e
    obtain ⟨g,o,rfl,-,-,hgc⟩:=hzc k x hx
    have c1:=hTr.st
    obtain ⟨w',hdel,hT',hb',hs'⟩:=hTr.del x 0
    have e9:delL T.nd (xs.take (k+1))=upn (delL T.nd (xs.take k)) x none:=by
     rw [List.take_add_one,hx];exact delL_append _ _ _
    clear hzc hTr
    go_wp2
    refine ⟨⟨k+1,hlt,by simp,hz.same (by omega) (fun b hb h=>hb'.block b hb (by omega)),?_,hbt.trans hb'⟩,by simp [intOf];omega⟩
    rw [e9];exact hT'
  · obtain rfl:k=xs.length:=by omega
    have hlt':¬((xs.length:Nat):Int)<(xs.length:Int):=by omega
    rw [List.take_length] at hTr
    go_wp2
    refine bodyPost_end (results_none rfl _ _ _) rfl ?_
    exact ⟨⟨_,rfl⟩,hTr,hbt⟩
theorem ownLeaf_any (cs:List Value) (d:LfD) (hl:lfL d) (w:World) (hd:LfIn w cs d):Calls Tryz.prog 90 #[.agg cs.toArray] w fun e w'=>∃ cs',e = .returned (.agg cs'.toArray)∧LfO (fun b=>w.heap.size≤b) w' cs' d∧Below w.heap.size w w':=by
 refine (ownLeafO_any cs d hl w hd).mono ?_
 rintro e w' ⟨y0,e0,y1,e1,y2,e2,y4,e4,y5,e5,rfl,h0,h1,h2,h4,h5,hb⟩
 exact ⟨[_,_,_,_,_,_],rfl,⟨_,_,_,_,_,rfl,BO.own h0,BO.own h1,BO.own h2,BO.own h4,BO.own h5⟩,hb⟩
theorem ex_mapUpdate {P:Program} {a:Act} {oi:Oper} {w w':World} {u v r:Value} (t:TypeId) (m k x:Operand) (ho:oi.op = .mapUpdate t m k x) (hm:a.eval m=u) (hk:a.eval k=v) (hx:a.eval x=r) (hrun:(Instr.mapUpdate t u v r).run P w = .ok () w'):(execOp a.eval oi).run P w = .ok .skip w':=by
 unfold execOp
 simp [ho,hm,hk,hx,hrun]
set_option maxRecDepth 20000 in
set_option maxHeartbeats 4000000 in
theorem put4_any (ok:Nat→Prop) (tb mb:Nat) (T:Tr) (i:Int) (hi:0≤i∧i<64) (cs:List Value) (d:LfD) (hl:lfL d) (w:World) (h:TrAt ok w tb mb T) (hd:LfIn w cs d) :
 Calls Tryz.prog 96 #[pA tb 0,.int .i64 i,.agg cs.toArray] w fun e w'=>(∃ v,e = .returned v)∧TrAt (fun b=>ok b∨w.heap.size≤b) w' tb mb ⟨T.n,upn T.nd (2*i) (some (.lf d))⟩∧But (fun j=>j=mb) w w':=by
 have b1:Below w.heap.size w (w.alloc (.cells cs.toArray 54)):=(Below.refl _ _).alloc (Nat.le_refl _) _
 have k1:=RW.fresh w cs 54
 have hil:(Tryz.prog.info? 54).map (·.size)=some cs.length:=by rw [hd.row.1];kernel_rfl
 obtain ⟨W1,hW1⟩:∃ W1,W1=w.alloc (.cells cs.toArray 54):=⟨_,rfl⟩
 rw [←hW1] at b1 k1
 have bd:Below W1.heap.size W1 W1.drew:=(Below.refl _ _).drew
 have bV:=below_next b1 bd
 have K1:=k1.still bd
 have h1:=h.below bV
 have d1:=hd.keep bV
 have hs1:w.heap.size≤W1.drew.heap.size:=bV.size
 have cP:=placeOf_any i ⟨hi.1,by omega⟩
 have HW1:=Hid.mk' hW1
 have htl:=h.tlt
 have hml:=h.mlt
 have c1:=fun u (hu:Below W1.drew.heap.size W1.drew u)=>(h1.below hu).st
 clear hW1 b1 k1 bd h hd
 go_enter Tryz.func96,Tryz.ntmps96
 go_upto_region 1 with (fail)
 rw [←HW1.out]
 refine wp_last 9 (S:=fun u=>Below W1.drew.heap.size W1.drew u) (by kernel_rfl) (by kernel_rfl) (by kernel_rfl) (by kernel_rfl) (Below.refl _ _) (fun hS => ?_)
 clear HW1
 generalize W1.drew=V at *
 refine tg 0 hS ?_
 (try simp only [pS])
 refine tg 1 hS ?_
 (try simp only [pS])
 refine tg 2 hS ?_
 (try simp only [pS])
 refine tc 3 hS c1 ?_
 (try simp only [pS])
 refine tg 4 hS ?_
 (try simp only [pS])
 refine tl 6 K1 hS 54 Tryz.underlying54 hil ?_
 (try simp only [pS])
 refine cl 5 (cP V) (fun e w1 hr => ?_)
 obtain ⟨rfl,rfl⟩:=hr
 refine ⟨_,rfl,hS,?_⟩
 (try simp only [pS])
 refine cl 7 (ownLeaf_any cs d hl w1 d1) (fun e w2 hr => ?_)
 obtain ⟨cs',rfl,hO,hb2⟩:=hr
 refine ⟨_,rfl,hb2,?_⟩
 (try simp only [pS])
 refine tg 8 hb2 (v := .iface 117 (.agg cs'.toArray)) ?_ (hy:=by intro u _;rfl)
 (try simp only [pS])
 have h2:=h1.below hb2
 have hs2:=hb2.size
 have hO':LfO (fun b=>ok b∨w.heap.size≤b) w2 cs' d:=hO.wide (fun b _ h => .inr (Nat.le_trans hs1 h))
 have h3:TrAt (fun b=>ok b∨w.heap.size≤b) w2 tb mb T:=h2.wide (fun b _ h => .inl h) (fun h=>by rcases h with h | h;exact h2.ntb h;omega) (fun h=>by rcases h with h | h;exact h2.nmb h;omega)
 obtain ⟨w3,hrun,h4,hb3,-⟩:=h3.put (2*i) (.iface 117 (.agg cs'.toArray)) (d := .lf d) ⟨cs',rfl,hO'⟩
 refine wpAnyH_done (by kernel_rfl) ?_ _
 refine lastRun 9 (w':=w3) ?_ (hrun:=ex_mapUpdate 69 (.tmp 9) (.tmp 11) (.tmp 14) rfl rfl rfl rfl hrun)
 refine NoPanic.normal ?_
 go_wp2
 refine bodyPost_end (results_none rfl _ _ _) rfl ?_
 exact ⟨⟨_,rfl⟩,h4,(But.of_below (below_next bV hb2)).trans hb3⟩
end Go.Proofs.YtddkbmnkbfciaaaGreatDoor
