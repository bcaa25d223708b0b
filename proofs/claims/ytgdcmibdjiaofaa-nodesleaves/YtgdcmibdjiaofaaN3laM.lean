/- What the proof stands on: N3la, N3lb, N3lc, N3ld, N3le, N3lf, N3lg, Kit. -/
import Derived.Test.YtgdcmibdjiaofaaBaseM
import Derived.Test.YtgdcmibdjiaofaaN3rjM
import Derived.ChangeOld
import Derived.ChangeSlices
import Derived.Deep.DeepHandedRow
import Derived.Lib.LaidTab
import Derived.OpenShut
import Derived.ProofKit
import Derived.SizedLaws
import Derived.WalkKit
namespace Go.Proofs.Ytgdcmibdjiaofaa
open Go.RowKit
set_option maxRecDepth 20000 in
theorem copied_any (v:Value) (n:Nat) (b:Nat→Nat) (hn:n<140737488355000) (w:World) (hv:BytesIn w v n b):Calls Try.prog 35 #[v] w fun e w'=>∃ s,e = .returned s∧Own w.heap.size w' s n b∧Below w.heap.size w w':=by
 obtain ⟨x,c,rfl,hxn,-,hs⟩:=hv.src
 have b1:Below w.heap.size w (w.alloc (.cells #[] 5)):=(Below.refl _ _).alloc (Nat.le_refl _) _
 have hsrc:=hs _ b1
 clear hs hv b1
 go_enter Try.func35,Try.ntmps35
 go_wp2_with (at_builtin;refine wpList_append_empty rfl (.tmp 3) (.tmp 4) rfl w.heap.size b w.heap.size rfl rfl x n c rfl hsrc hxn (by omega) (Nat.le_refl _) ?_;intro v2 w2 o2 b2)
 go_ret
 exact ⟨_,rfl,o2,b2⟩
def ZIx (w:World) (v:Value) (l:List Int):Prop:=∃ x c,v = .slice x l.length c∧(x=none→c=0)∧∀ i z,l[i]? = some z→∃ g o,x=some ⟨g,o,none⟩∧g<w.heap.size∧w.cell? ⟨g,o+i,none⟩=some (.int .i64 z)
theorem ZIx.zin {w:World} {v:Value} {l:List Int} (h:ZIx w v l):ZIn w v l:=by obtain ⟨x,c,e,-,h⟩:=h;exact ⟨x,c,e,h⟩
theorem ZIx.keep {w w':World} {v:Value} {l:List Int} (h:ZIx w v l) (hb:Below w.heap.size w w'):ZIx w' v l:=by
 obtain ⟨x,c,e,hx,h⟩:=h
 refine ⟨x,c,e,hx,fun i z hz => ?_⟩
 obtain ⟨g,o,e2,hg,hc⟩:=h i z hz
 exact ⟨g,o,e2,Nat.lt_of_lt_of_le hg hb.size,(hb.cell (p:=⟨g,o+i,none⟩) hg).trans hc⟩
def lfL (d:LfD):Prop:=d.enc.n<140737488355000∧d.sig.n<140737488355000∧d.name.n<140737488355000∧d.hash.n<140737488355000∧d.sg.n<140737488355000
theorem infoL6:(Try.prog.info? 26).map (·.size)=some 6:=by kernel_rfl
theorem infoP3:(Try.prog.info? 45).map (·.size)=some 3:=by kernel_rfl
theorem infoK8:(Try.prog.info? 58).map (·.size)=some 8:=by kernel_rfl
theorem LfIn.form {w:World} {cs:List Value} {d:LfD} (h:LfIn w cs d):∃ x0 c0 x1 c1 x2 c2 x4 c4 x5 c5,cs=[.slice x0 d.enc.n c0,.slice x1 d.sig.n c1,.slice x2 d.name.n c2,.int .i64 d.src,.slice x4 d.hash.n c4,.slice x5 d.sg.n c5]∧BytesIn w (.slice x0 d.enc.n c0) d.enc.n d.enc.b∧BytesIn w (.slice x1 d.sig.n c1) d.sig.n d.sig.b∧BytesIn w (.slice x2 d.name.n c2) d.name.n d.name.b∧BytesIn w (.slice x4 d.hash.n c4) d.hash.n d.hash.b∧BytesIn w (.slice x5 d.sg.n c5) d.sg.n d.sg.b:=by
 obtain ⟨v0,v1,v2,v4,v5,rfl,h0,h1,h2,h4,h5⟩:=h
 obtain ⟨x0,c0,rfl,-⟩:=h0.src
 obtain ⟨x1,c1,rfl,-⟩:=h1.src
 obtain ⟨x2,c2,rfl,-⟩:=h2.src
 obtain ⟨x4,c4,rfl,-⟩:=h4.src
 obtain ⟨x5,c5,rfl,-⟩:=h5.src
 exact ⟨x0,c0,x1,c1,x2,c2,x4,c4,x5,c5,rfl,h0,h1,h2,h4,h5⟩
set_option maxRecDepth 20000 in
set_option maxHeartbeats 1000000 in
theorem mkLeafO_any (cs:List Value) (d:LfD) (hl:lfL d) (w:World) (hd:LfIn w cs d):Calls Try.prog 10 #[.agg cs.toArray] w fun e w'=>∃ y0 e0 y1 e1 y2 e2 y4 e4 y5 e5,e = .returned (.agg #[.slice y0 d.enc.n e0,.slice y1 d.sig.n e1,.slice y2 d.name.n e2,.int .i64 d.src,.slice y4 d.hash.n e4,.slice y5 d.sg.n e5])∧Own w.heap.size w' (.slice y0 d.enc.n e0) d.enc.n d.enc.b∧Own w.heap.size w' (.slice y1 d.sig.n e1) d.sig.n d.sig.b∧Own w.heap.size w' (.slice y2 d.name.n e2) d.name.n d.name.b∧Own w.heap.size w' (.slice y4 d.hash.n e4) d.hash.n d.hash.b∧Own w.heap.size w' (.slice y5 d.sg.n e5) d.sg.n d.sg.b∧Below w.heap.size w w':=by
 obtain ⟨x0,c0,x1,c1,x2,c2,x4,c4,x5,c5,rfl,h0,h1,h2,h4,h5⟩:=hd.form
 clear hd
 obtain ⟨hl0,hl1,hl2,hl4,hl5⟩:=hl
 have k1:=RW.fresh w [.slice x0 d.enc.n c0,.slice x1 d.sig.n c1,.slice x2 d.name.n c2,.int .i64 d.src,.slice x4 d.hash.n c4,.slice x5 d.sg.n c5] 24
 have b1:Below w.heap.size w (w.alloc (.cells #[.slice x0 d.enc.n c0,.slice x1 d.sig.n c1,.slice x2 d.name.n c2,.int .i64 d.src,.slice x4 d.hash.n c4,.slice x5 d.sg.n c5] 24)):=(Below.refl _ _).alloc (Nat.le_refl _) _
 have s1:(w.alloc (.cells #[.slice x0 d.enc.n c0,.slice x1 d.sig.n c1,.slice x2 d.name.n c2,.int .i64 d.src,.slice x4 d.hash.n c4,.slice x5 d.sg.n c5] 24)).heap.size=w.heap.size+1:=by simp
 obtain ⟨W1,hW1⟩:∃ W1,W1=w.alloc (.cells #[.slice x0 d.enc.n c0,.slice x1 d.sig.n c1,.slice x2 d.name.n c2,.int .i64 d.src,.slice x4 d.hash.n c4,.slice x5 d.sg.n c5] 24):=⟨_,rfl⟩
 rw [show w.alloc (.cells ([.slice x0 d.enc.n c0,.slice x1 d.sig.n c1,.slice x2 d.name.n c2,.int .i64 d.src,.slice x4 d.hash.n c4,.slice x5 d.sg.n c5]).toArray 24)=W1 from hW1.symm] at k1
 rw [←hW1] at b1 s1
 have k2:=RW.fresh W1 [.slice none 0 0,.slice none 0 0,.slice none 0 0,.int .i64 0,.slice none 0 0,.slice none 0 0] 26
 have b2:Below W1.heap.size W1 (W1.alloc (.cells #[.slice none 0 0,.slice none 0 0,.slice none 0 0,.int .i64 0,.slice none 0 0,.slice none 0 0] 26)):=(Below.refl _ _).alloc (Nat.le_refl _) _
 have s2:(W1.alloc (.cells #[.slice none 0 0,.slice none 0 0,.slice none 0 0,.int .i64 0,.slice none 0 0,.slice none 0 0] 26)).heap.size=W1.heap.size+1:=by simp
 obtain ⟨W,hW⟩:∃ W,W=W1.alloc (.cells #[.slice none 0 0,.slice none 0 0,.slice none 0 0,.int .i64 0,.slice none 0 0,.slice none 0 0] 26):=⟨_,rfl⟩
 rw [show W1.alloc (.cells [.slice none 0 0,.slice none 0 0,.slice none 0 0,.int .i64 0,.slice none 0 0,.slice none 0 0].toArray 26)=W from hW.symm] at k2
 rw [←hW] at b2 s2
 rw [s1] at k2 s2
 have HW:Hid (W=(w.alloc (.cells #[.slice x0 d.enc.n c0,.slice x1 d.sig.n c1,.slice x2 d.name.n c2,.int .i64 d.src,.slice x4 d.hash.n c4,.slice x5 d.sg.n c5] 24)).alloc (.cells #[.slice none 0 0,.slice none 0 0,.slice none 0 0,.int .i64 0,.slice none 0 0,.slice none 0 0] 26)):=Hid.mk' (by rw [hW,hW1])
 have bd:Below W.heap.size W W.drew:=(Below.refl _ _).drew
 have bV:=below_next (below_next b1 b2) bd
 have K1:=Hid.mk' ((k1.still b2).still bd)
 have K2:=Hid.mk' (k2.still bd)
 have D0:=Hid.mk' (h0.keep bV)
 have D1:=Hid.mk' (h1.keep bV)
 have D2:=Hid.mk' (h2.keep bV)
 have D4:=Hid.mk' (h4.keep bV)
 have D5:=Hid.mk' (h5.keep bV)
 have sV:W.drew.heap.size=w.heap.size+1+1:=s2
 have SV:=Hid.mk' sV
 clear hW hW1 k1 k2 b1 b2 s1 s2 h0 h1 h2 h4 h5 bd sV
 go_enter Try.func10,Try.ntmps10
 go_upto_region 1 with (fail)
 rw [←HW.out]
 refine wp_last 18 (S:=fun u=>Below W.drew.heap.size W.drew u) (by kernel_rfl) (by kernel_rfl) (by kernel_rfl) (by kernel_rfl) (Below.refl _ _) (fun hS => ?_)
 clear HW
 generalize W.drew=V at *
 refine tg 0 hS (v:=pA w.heap.size 0) ?_ (hy:=by intro u _;kernel_rfl)
 (try simp only [pS])
 refine tc 1 hS (fun u hu=>(hu.cell (p:=⟨w.heap.size,0,none⟩) K1.out.lt).trans (K1.out.cell (o:=0) rfl)) ?_
 (try simp only [pS])
 refine tg 3 hS (v:=pA w.heap.size 1) ?_ (hy:=by intro u _;kernel_rfl)
 (try simp only [pS])
 refine tc 4 hS (fun u hu=>(hu.cell (p:=⟨w.heap.size,1,none⟩) K1.out.lt).trans (K1.out.cell (o:=1) rfl)) ?_
 (try simp only [pS])
 refine tg 6 hS (v:=pA w.heap.size 2) ?_ (hy:=by intro u _;kernel_rfl)
 (try simp only [pS])
 refine tc 7 hS (fun u hu=>(hu.cell (p:=⟨w.heap.size,2,none⟩) K1.out.lt).trans (K1.out.cell (o:=2) rfl)) ?_
 (try simp only [pS])
 refine tg 9 hS (v:=pA w.heap.size 3) ?_ (hy:=by intro u _;kernel_rfl)
 (try simp only [pS])
 refine tc 10 hS (fun u hu=>(hu.cell (p:=⟨w.heap.size,3,none⟩) K1.out.lt).trans (K1.out.cell (o:=3) rfl)) ?_
 (try simp only [pS])
 refine tg 11 hS (v:=pA w.heap.size 4) ?_ (hy:=by intro u _;kernel_rfl)
 (try simp only [pS])
 refine tc 12 hS (fun u hu=>(hu.cell (p:=⟨w.heap.size,4,none⟩) K1.out.lt).trans (K1.out.cell (o:=4) rfl)) ?_
 (try simp only [pS])
 refine tg 14 hS (v:=pA w.heap.size 5) ?_ (hy:=by intro u _;kernel_rfl)
 (try simp only [pS])
 refine tc 15 hS (fun u hu=>(hu.cell (p:=⟨w.heap.size,5,none⟩) K1.out.lt).trans (K1.out.cell (o:=5) rfl)) ?_
 (try simp only [pS])
 refine cl 2 (copied_any _ d.enc.n d.enc.b hl0 V (D0.out.keep hS)) (fun e w1 hr => ?_)
 obtain ⟨s0,rfl,o0,hb⟩:=hr
 replace o0:=o0.base hS.size
 replace hS:=below_next hS hb
 obtain ⟨y0,e0,rfl⟩:=o0.slice
 refine ⟨_,rfl,hS,?_⟩
 (try simp only [pS])
 refine cl 5 (copied_any _ d.sig.n d.sig.b hl1 w1 (D1.out.keep hS)) (fun e w2 hr => ?_)
 obtain ⟨s1,rfl,o1,hb⟩:=hr
 replace o1:=o1.base hS.size
 replace hS:=below_next hS hb
 replace o0:=o0.below hb
 obtain ⟨y1,e1,rfl⟩:=o1.slice
 refine ⟨_,rfl,hS,?_⟩
 (try simp only [pS])
 refine cl 8 (copied_any _ d.name.n d.name.b hl2 w2 (D2.out.keep hS)) (fun e w3 hr => ?_)
 obtain ⟨s2,rfl,o2,hb⟩:=hr
 replace o2:=o2.base hS.size
 replace hS:=below_next hS hb
 replace o0:=o0.below hb
 replace o1:=o1.below hb
 obtain ⟨y2,e2,rfl⟩:=o2.slice
 refine ⟨_,rfl,hS,?_⟩
 (try simp only [pS])
 refine cl 13 (copied_any _ d.hash.n d.hash.b hl4 w3 (D4.out.keep hS)) (fun e w4 hr => ?_)
 obtain ⟨s4,rfl,o4,hb⟩:=hr
 replace o4:=o4.base hS.size
 replace hS:=below_next hS hb
 replace o0:=o0.below hb
 replace o1:=o1.below hb
 replace o2:=o2.below hb
 obtain ⟨y4,e4,rfl⟩:=o4.slice
 refine ⟨_,rfl,hS,?_⟩
 (try simp only [pS])
 refine cl 16 (copied_any _ d.sg.n d.sg.b hl5 w4 (D5.out.keep hS)) (fun e w5 hr => ?_)
 obtain ⟨s5,rfl,o5,hb⟩:=hr
 replace o5:=o5.base hS.size
 replace hS:=below_next hS hb
 replace o0:=o0.below hb
 replace o1:=o1.below hb
 replace o2:=o2.below hb
 replace o4:=o4.below hb
 obtain ⟨y5,e5,rfl⟩:=o5.slice
 refine ⟨_,rfl,hS,?_⟩
 (try simp only [pS])
 refine tg 17 hS (v := .agg #[.slice y0 d.enc.n e0,.slice y1 d.sig.n e1,.slice y2 d.name.n e2,.int .i64 d.src,.slice y4 d.hash.n e4,.slice y5 d.sg.n e5]) ?_ (hy:=by intro u _;kernel_rfl)
 (try simp only [pS])
 refine wpAnyH_done (by kernel_rfl) ?_ _
 have k2:=K2.out.still hS
 refine lastRow 18 26 2 20 [.slice y0 d.enc.n e0,.slice y1 d.sig.n e1,.slice y2 d.name.n e2,.int .i64 d.src,.slice y4 d.hash.n e4,.slice y5 d.sg.n e5] k2 rfl infoL6 (by simp [Value.oneCell']) (fun rr => ?_)
 refine NoPanic.normal ?_
 go_wp2
 refine bodyPost_ret (results_cell_mid Try.results10 _ _ (w.heap.size+1) 0 [.slice y0 d.enc.n e0,.slice y1 d.sig.n e1,.slice y2 d.name.n e2,.int .i64 d.src,.slice y4 d.hash.n e4,.slice y5 d.sg.n e5] _ rfl rr.range Try.underlying26 rfl infoL6) rfl ?_
 have x9:Rest [w.heap.size+1] w5 (w5.setCells (w.heap.size+1) 0 [.slice y0 d.enc.n e0,.slice y1 d.sig.n e1,.slice y2 d.name.n e2,.int .i64 d.src,.slice y4 d.hash.n e4,.slice y5 d.sg.n e5]):=Rest.of_out (Out.setCells (b:=w.heap.size+1) (o:=0) (n:=6) w5 _ (Nat.le_refl _) (Nat.le_refl _)) (by simp)
 have hx:∀ x,x∈[w.heap.size+1]→x<V.heap.size:=fun x hx=>by simp at hx;have:=SV.out;omega
 have hV:w.heap.size≤V.heap.size:=bV.size
 exact ⟨y0,e0,y1,e1,y2,e2,y4,e4,y5,e5,rfl,(o0.rest x9 hx).base hV,(o1.rest x9 hx).base hV,(o2.rest x9 hx).base hV,(o4.rest x9 hx).base hV,(o5.rest x9 hx).base hV,(below_next bV hS).trans (x9.below (fun x hx=>by simp at hx;omega) (below_next bV hS).size)⟩
theorem mkLeaf_any (cs:List Value) (d:LfD) (hl:lfL d) (w:World) (hd:LfIn w cs d):Calls Try.prog 10 #[.agg cs.toArray] w fun e w'=>∃ cs',e = .returned (.agg cs'.toArray)∧LfIn w' cs' d∧Below w.heap.size w w' :=
 (mkLeafO_any cs d hl w hd).mono fun _ _ ⟨y0,e0,y1,e1,y2,e2,y4,e4,y5,e5,h,l0,l1,l2,l4,l5,hb⟩=>⟨[.slice y0 d.enc.n e0,.slice y1 d.sig.n e1,.slice y2 d.name.n e2,.int .i64 d.src,.slice y4 d.hash.n e4,.slice y5 d.sg.n e5],h,⟨_,_,_,_,_,rfl,BytesIn.of_own l0,BytesIn.of_own l1,BytesIn.of_own l2,BytesIn.of_own l4,BytesIn.of_own l5⟩,hb⟩
end Go.Proofs.Ytgdcmibdjiaofaa
namespace Go.Proofs.Ytgdcmibdjiaofaa
open Go.RowKit
theorem rX {P:Program} {md:Region.Mode} {ops:Array Oper} {Q:Exit→Act→World→Prop} {S:World→Prop} {fuel:Nat} {listed:Array Bool} {a:Act} {w:World} (i:Nat) {rs:List Nat} {oi:Oper} (v:Value) (cs:Array Value) (t:TypeId) (hk:S (w.alloc (.cells cs t))) (h:wpAnyH P md ops Q S fuel (listed.setIfInBounds i true) (a.put oi.dst v) (w.alloc (.cells cs t))) (hs:AllReadyH P md ops Q S fuel listed a w rs)
 (hi:ops.toList[i]? = some oi:=by rfl) (hrun:(execOp a.eval oi).run P w = .ok (.value v) (w.alloc (.cells cs t)):=by kernel_rfl) (hw:Region.wanted oi (yielded ops a.tmps)=true:=by rfl):AllReadyH P md ops Q S fuel listed a w (i :: rs):=by
 refine AllReadyH.cons (at_list hi) (fun K hK => ?_) hs
 rw [if_pos hw]
 unfold Oper.wp
 rw [hrun,Oper.upon_value]
 exact hK.out _ _ hk (fun _=>h)
theorem own_unlike {w w':World} {b b' e e' s s' n n':Nat} {v v':Value} {xs xs':List Value} (h:w.ownsRow b e s v n xs) (h':w.ownsRow b' e' s' v' n' xs') (hne:e≠e') (hg:w.grownBy w' v'.ownBlock):w'.ownsRow b e s v n xs:=by
 obtain ⟨h1,h2⟩:=h
 refine ⟨h1,?_⟩
 rcases h2 with h2 | ⟨g,cap,cur,hv,hb,hc,hr⟩
 · exact .inl h2
 · refine .inr ⟨g,cap,cur,hv,hb,?_,hr⟩
   rw [hg.block g (World.ownsRow.lt (w:=w) (base:=b) (e:=e) (size:=s) (v:=v) (n:=n) (xs:=xs) ⟨h1,.inr ⟨g,cap,cur,hv,hb,hc,hr⟩⟩ g (by rw [hv];rfl)).2 (fun ho => ?_)]
   · exact hc
   · rcases h'.2 with ⟨hn,-⟩ | ⟨g',cap',cur',hv',-,hc',-⟩
     · rw [hn] at ho;cases ho
     · rw [hv'] at ho
       obtain rfl:g=g':=by simpa [Value.ownBlock] using ho
       rw [hc] at hc'
       simp at hc'
       exact hne hc'.2
theorem run_append_ints' (w:World) (base:Nat) (v:Value) (l m:List Int) (u:Value) (hown:OwnZ base w v l) (hu:ZIx w u m) (hl:(l.length+m.length)*8≤140737488355328) (hbase:base≤w.heap.size) :
 ∃ v' w',(Builtin.append_ #[42,42] 42 #[v,u]).run Try.prog w = .ok v' w'∧OwnZ base w' v' (l ++ m)∧Below base w w'∧w.grownBy w' v.ownBlock:=by
 obtain ⟨x,c,rfl,hxn,hz⟩:=hu
 obtain ⟨i0,hi,hz0,hz1,hz2⟩:=info_parts info_int
 cases x with
 | none =>
  have hm:m=[]:=by
   cases m with
   | nil=>rfl
   | cons a m=>obtain ⟨g,o,h,-⟩:=hz 0 a rfl;cases h
  subst hm
  obtain rfl:=hxn rfl
  refine ⟨v,w,?_,by rw [List.append_nil];exact hown,Below.refl _ _,⟨rfl,rfl,rfl,Nat.le_refl _,fun _ _ _=>rfl⟩⟩
  rcases hown.2 with ⟨rfl,_⟩ | ⟨g,cap,cur,rfl,_,_,hnc,_⟩
  · exact run_append_nothing w 42 42 42 3 i0 und_ints hi none 0 0 (Nat.le_refl _) _ ⟨.inl ⟨_,und_ints⟩,fun _=>rfl,rfl,rfl,by simp,fun _ h=>by cases h⟩
  · exact run_append_nothing w 42 42 42 3 i0 und_ints hi _ l.length cap hnc _ ⟨.inl ⟨_,und_ints⟩,fun _=>rfl,rfl,rfl,by simp,fun _ h=>by cases h⟩
 | some ad =>
  have hnews:∀ j u,(m.map fun z=>Value.int .i64 z)[j]? = some u→w.cell? (ad.add j)=some u:=fun j u hu=>by
   rw [List.getElem?_map] at hu
   cases hj:m[j]? with
   | none=>rw [hj] at hu;cases hu
   | some z =>
    rw [hj] at hu
    obtain ⟨g,o,h,-,hc⟩:=hz j z hj
    cases h
    rw [Addr.add_mid,←(Option.some.inj hu:Value.int .i64 z=u)]
    exact hc
  obtain ⟨v',w',h1,h2,h3,-,-⟩:=run_append_own_at (P:=Try.prog) w base 42 42 3 i0 (.int .i64 0) 1 8 und_ints hi hz0 hz1 hz2 rfl (by decide) v l.length _ hown ad m.length c (m.map fun z => .int .i64 z) (by simp) hnews (fun u hu=>by simp at hu;obtain ⟨a,-,rfl⟩:=hu;rfl) (by unfold maxLen;omega) hl hbase
  refine ⟨v',w',h1,?_,below_grown (Below.refl _ _) h3 hown (Nat.le_refl _) hbase,h3⟩
  unfold OwnZ
  rw [List.length_append,List.map_append]
  exact h2
def PrIx (w:World) (cs:List Value) (d:PrD):Prop:=∃ v0 v1 v2,cs=[v0,v1,v2]∧BytesIn w v0 d.enc.n d.enc.b∧BytesIn w v1 d.hash.n d.hash.b∧ZIx w v2 d.um
theorem PrIx.prin {w:World} {cs:List Value} {d:PrD} (h:PrIx w cs d):PrIn w cs d:=by
 obtain ⟨v0,v1,v2,e,h0,h1,h2⟩:=h
 exact ⟨v0,v1,v2,e,h0,h1,h2.zin⟩
theorem PrIx.keep {w w':World} {cs:List Value} {d:PrD} (h:PrIx w cs d) (hb:Below w.heap.size w w'):PrIx w' cs d:=by
 obtain ⟨v0,v1,v2,e,h0,h1,h2⟩:=h
 exact ⟨v0,v1,v2,e,h0.keep hb,h1.keep hb,h2.keep hb⟩
def prL (d:PrD):Prop:=d.enc.n<140737488355000∧d.hash.n<140737488355000∧d.um.length*8≤140737488355000
set_option maxRecDepth 20000 in
set_option maxHeartbeats 1000000 in
theorem mkParent_any (cs:List Value) (d:PrD) (hl:prL d) (w:World) (hd:PrIx w cs d):Calls Try.prog 19 #[.agg cs.toArray] w fun e w'=>∃ cs',e = .returned (.agg cs'.toArray)∧PrIn w' cs' d∧Below w.heap.size w w':=by
 obtain ⟨v0,v1,v2,rfl,h0,h1,h2⟩:=hd
 have h2':=h2
 obtain ⟨x0,c0,rfl,-⟩:=h0.src
 obtain ⟨x1,c1,rfl,-⟩:=h1.src
 obtain ⟨x2,c2,rfl,-⟩:=h2
 have k1:=RW.fresh w [.slice x0 d.enc.n c0,.slice x1 d.hash.n c1,.slice x2 d.um.length c2] 44
 have b1:Below w.heap.size w (w.alloc (.cells #[.slice x0 d.enc.n c0,.slice x1 d.hash.n c1,.slice x2 d.um.length c2] 44)):=(Below.refl _ _).alloc (Nat.le_refl _) _
 have s1:(w.alloc (.cells #[.slice x0 d.enc.n c0,.slice x1 d.hash.n c1,.slice x2 d.um.length c2] 44)).heap.size=w.heap.size+1:=by simp
 obtain ⟨W1,hW1⟩:∃ W1,W1=w.alloc (.cells #[.slice x0 d.enc.n c0,.slice x1 d.hash.n c1,.slice x2 d.um.length c2] 44):=⟨_,rfl⟩
 rw [show w.alloc (.cells ([.slice x0 d.enc.n c0,.slice x1 d.hash.n c1,.slice x2 d.um.length c2]).toArray 44)=W1 from hW1.symm] at k1
 rw [←hW1] at b1 s1
 have k2:=RW.fresh W1 [.slice none 0 0,.slice none 0 0,.slice none 0 0] 45
 have b2:Below W1.heap.size W1 (W1.alloc (.cells #[.slice none 0 0,.slice none 0 0,.slice none 0 0] 45)):=(Below.refl _ _).alloc (Nat.le_refl _) _
 have s2:(W1.alloc (.cells #[.slice none 0 0,.slice none 0 0,.slice none 0 0] 45)).heap.size=W1.heap.size+1:=by simp
 obtain ⟨W,hW⟩:∃ W,W=W1.alloc (.cells #[.slice none 0 0,.slice none 0 0,.slice none 0 0] 45):=⟨_,rfl⟩
 rw [show W1.alloc (.cells [.slice none 0 0,.slice none 0 0,.slice none 0 0].toArray 45)=W from hW.symm] at k2
 rw [←hW] at b2 s2
 rw [s1] at k2 s2
 have HW:Hid (W=(w.alloc (.cells #[.slice x0 d.enc.n c0,.slice x1 d.hash.n c1,.slice x2 d.um.length c2] 44)).alloc (.cells #[.slice none 0 0,.slice none 0 0,.slice none 0 0] 45)):=Hid.mk' (by rw [hW,hW1])
 have bd:Below W.heap.size W W.drew:=(Below.refl _ _).drew
 have bV:=below_next (below_next b1 b2) bd
 have K1:=Hid.mk' ((k1.still b2).still bd)
 have K2:=Hid.mk' (k2.still bd)
 have D0:=Hid.mk' (h0.keep bV)
 have D1:=Hid.mk' (h1.keep bV)
 have D2:=Hid.mk' (h2'.keep bV)
 have sV:W.drew.heap.size=w.heap.size+1+1:=s2
 have SV:=Hid.mk' sV
 clear hW hW1 k1 k2 b1 b2 s1 s2 bd sV h0 h1 h2'
 go_enter Try.func19,Try.ntmps19
 go_upto_region 1 with (fail)
 rw [←HW.out]
 refine wp_last 11 (S:=fun u=>Below W.drew.heap.size W.drew u) (by kernel_rfl) (by kernel_rfl) (by kernel_rfl) (by kernel_rfl) (Below.refl _ _) (fun hS => ?_)
 clear HW
 generalize W.drew=V at *
 refine tg 0 hS (v:=pA w.heap.size 0) ?_ (hy:=by intro u _;kernel_rfl)
 (try simp only [pS])
 refine tc 1 hS (fun u hu=>(hu.cell (p:=⟨w.heap.size,0,none⟩) K1.out.lt).trans (K1.out.cell (o:=0) rfl)) ?_
 (try simp only [pS])
 refine tg 3 hS (v:=pA w.heap.size 1) ?_ (hy:=by intro u _;kernel_rfl)
 (try simp only [pS])
 refine tc 4 hS (fun u hu=>(hu.cell (p:=⟨w.heap.size,1,none⟩) K1.out.lt).trans (K1.out.cell (o:=1) rfl)) ?_
 (try simp only [pS])
 refine tg 7 hS (v:=pA w.heap.size 2) ?_ (hy:=by intro u _;kernel_rfl)
 (try simp only [pS])
 refine tc 8 hS (fun u hu=>(hu.cell (p:=⟨w.heap.size,2,none⟩) K1.out.lt).trans (K1.out.cell (o:=2) rfl)) ?_
 (try simp only [pS])
 refine wpAnyH_ready (rs:=[2,6]) (by kernel_rfl) (by simp) ?_
 refine rC 2 (copied_any _ d.enc.n d.enc.b hl.1 V (D0.out.keep hS)) (fun e w1 hr => ?_) ?_
 · obtain ⟨s0,rfl,o0,hb⟩:=hr
   replace o0:=o0.base hS.size
   replace hS:=below_next hS hb
   refine ⟨_,rfl,hS,?_⟩
   (try simp only [pS])
   refine wpAnyH_ready (rs:=[5,6]) (by kernel_rfl) (by simp) ?_
   refine rC 5 (copied_any _ d.hash.n d.hash.b hl.2.1 w1 (D1.out.keep hS)) (fun e w2 hr => ?_) ?_
   · obtain ⟨s1,rfl,o1,hb⟩:=hr
     replace o1:=o1.base hS.size
     replace hS:=below_next hS hb
     refine ⟨_,rfl,hS,?_⟩
     (try simp only [pS])
     replace o0:=o0.below hb
     refine wpAnyH_ready (rs:=[6]) (by kernel_rfl) (by simp) ?_
     refine rX 6 (.slice (some ⟨w2.heap.size,0,none⟩) 0 0) #[] 3 (below_next hS ((Below.refl _ _).alloc (Nat.le_refl _) _)) ?_ ?_
     · have hb:Below w2.heap.size w2 (w2.alloc (.cells #[] 3)):=(Below.refl _ _).alloc (Nat.le_refl _) _
       have oz:=(show OwnZ V.heap.size (w2.alloc (.cells #[] 3)) (.slice (some ⟨w2.heap.size,0,none⟩) 0 0) [] from World.ownsRow_lit w2 #[] 0 hS.size (by decide) rfl)
       replace hS:=below_next hS hb
       generalize w2.alloc (.cells #[] 3)=w3 at *
       (try simp only [pS])
       replace o0:=o0.below hb
       replace o1:=o1.below hb
       obtain ⟨v4,w4,hrun4,oz4,b4,gr4⟩:=run_append_ints' w3 V.heap.size _ [] d.um _ oz (D2.out.keep hS) (by have:=hl.2.2;simp;omega) hS.size
       have o0':Own V.heap.size w4 _ d.enc.n d.enc.b:=own_unlike o0 oz (by decide) gr4
       have o1':Own V.heap.size w4 _ d.hash.n d.hash.b:=own_unlike o1 oz (by decide) gr4
       obtain ⟨y0,e0,ey0⟩:=o0'.slice
       obtain ⟨y1,e1,ey1⟩:=o1'.slice
       obtain ⟨y2,e2,ey2⟩:=oz4.slice
       rw [List.nil_append] at ey2
       subst ey0 ey1 ey2
       have hS4:=hS.trans b4
       refine onlyV 9 (v := .slice y2 d.um.length e2) ?_ hS4 ?_
       · exact exec_appZ (.tmp 9) (.tmp 11) rfl rfl rfl rfl hrun4
       (try simp only [pS])
       refine tg 10 hS4 (v := .agg #[.slice y0 d.enc.n e0,.slice y1 d.hash.n e1,.slice y2 d.um.length e2]) ?_ (hy:=by intro u _;kernel_rfl)
       (try simp only [pS])
       refine wpAnyH_done (by kernel_rfl) ?_ _
       have k2:=K2.out.still hS4
       refine lastRow 11 45 2 13 [.slice y0 d.enc.n e0,.slice y1 d.hash.n e1,.slice y2 d.um.length e2] k2 rfl infoP3 (by simp [Value.oneCell']) (fun rr => ?_)
       refine NoPanic.normal ?_
       go_wp2
       refine bodyPost_ret (results_cell_mid Try.results19 _ _ (w.heap.size+1) 0 [.slice y0 d.enc.n e0,.slice y1 d.hash.n e1,.slice y2 d.um.length e2] _ rfl rr.range Try.underlying45 rfl infoP3) rfl ?_
       have x9:Rest [w.heap.size+1] w4 (w4.setCells (w.heap.size+1) 0 [.slice y0 d.enc.n e0,.slice y1 d.hash.n e1,.slice y2 d.um.length e2]):=Rest.of_out (Out.setCells (b:=w.heap.size+1) (o:=0) (n:=3) w4 _ (Nat.le_refl _) (Nat.le_refl _)) (by simp)
       have hx:∀ x,x∈[w.heap.size+1]→x<V.heap.size:=fun x hx=>by simp at hx;have:=SV.out;omega
       exact ⟨[.slice y0 d.enc.n e0,.slice y1 d.hash.n e1,.slice y2 d.um.length e2],rfl,⟨_,_,_,rfl,BytesIn.of_own (o0'.rest x9 hx),BytesIn.of_own (o1'.rest x9 hx),(OwnZ.rest oz4 x9 hx).zin⟩,(below_next bV hS4).trans (x9.below (fun x hx=>by simp at hx;omega) (below_next bV hS4).size)⟩
     exact AllReadyH.nil
   refine rX 6 (.slice (some ⟨w1.heap.size,0,none⟩) 0 0) #[] 3 (below_next hS ((Below.refl _ _).alloc (Nat.le_refl _) _)) ?_ ?_
   · have hb:Below w1.heap.size w1 (w1.alloc (.cells #[] 3)):=(Below.refl _ _).alloc (Nat.le_refl _) _
     have oz:=(show OwnZ V.heap.size (w1.alloc (.cells #[] 3)) (.slice (some ⟨w1.heap.size,0,none⟩) 0 0) [] from World.ownsRow_lit w1 #[] 0 hS.size (by decide) rfl)
     replace hS:=below_next hS hb
     generalize w1.alloc (.cells #[] 3)=w2 at *
     (try simp only [pS])
     replace o0:=o0.below hb
     refine wpAnyH_ready (rs:=[5]) (by kernel_rfl) (by simp) ?_
     refine rC 5 (copied_any _ d.hash.n d.hash.b hl.2.1 w2 (D1.out.keep hS)) (fun e w3 hr => ?_) ?_
     · obtain ⟨s1,rfl,o1,hb⟩:=hr
       replace o1:=o1.base hS.size
       replace hS:=below_next hS hb
       refine ⟨_,rfl,hS,?_⟩
       (try simp only [pS])
       replace o0:=o0.below hb
       replace oz:=oz.below hb
       obtain ⟨v4,w4,hrun4,oz4,b4,gr4⟩:=run_append_ints' w3 V.heap.size _ [] d.um _ oz (D2.out.keep hS) (by have:=hl.2.2;simp;omega) hS.size
       have o0':Own V.heap.size w4 _ d.enc.n d.enc.b:=own_unlike o0 oz (by decide) gr4
       have o1':Own V.heap.size w4 _ d.hash.n d.hash.b:=own_unlike o1 oz (by decide) gr4
       obtain ⟨y0,e0,ey0⟩:=o0'.slice
       obtain ⟨y1,e1,ey1⟩:=o1'.slice
       obtain ⟨y2,e2,ey2⟩:=oz4.slice
       rw [List.nil_append] at ey2
       subst ey0 ey1 ey2
       have hS4:=hS.trans b4
       refine onlyV 9 (v := .slice y2 d.um.length e2) ?_ hS4 ?_
       · exact exec_appZ (.tmp 9) (.tmp 11) rfl rfl rfl rfl hrun4
       (try simp only [pS])
       refine tg 10 hS4 (v := .agg #[.slice y0 d.enc.n e0,.slice y1 d.hash.n e1,.slice y2 d.um.length e2]) ?_ (hy:=by intro u _;kernel_rfl)
       (try simp only [pS])
       refine wpAnyH_done (by kernel_rfl) ?_ _
       have k2:=K2.out.still hS4
       refine lastRow 11 45 2 13 [.slice y0 d.enc.n e0,.slice y1 d.hash.n e1,.slice y2 d.um.length e2] k2 rfl infoP3 (by simp [Value.oneCell']) (fun rr => ?_)
       refine NoPanic.normal ?_
       go_wp2
       refine bodyPost_ret (results_cell_mid Try.results19 _ _ (w.heap.size+1) 0 [.slice y0 d.enc.n e0,.slice y1 d.hash.n e1,.slice y2 d.um.length e2] _ rfl rr.range Try.underlying45 rfl infoP3) rfl ?_
       have x9:Rest [w.heap.size+1] w4 (w4.setCells (w.heap.size+1) 0 [.slice y0 d.enc.n e0,.slice y1 d.hash.n e1,.slice y2 d.um.length e2]):=Rest.of_out (Out.setCells (b:=w.heap.size+1) (o:=0) (n:=3) w4 _ (Nat.le_refl _) (Nat.le_refl _)) (by simp)
       have hx:∀ x,x∈[w.heap.size+1]→x<V.heap.size:=fun x hx=>by simp at hx;have:=SV.out;omega
       exact ⟨[.slice y0 d.enc.n e0,.slice y1 d.hash.n e1,.slice y2 d.um.length e2],rfl,⟨_,_,_,rfl,BytesIn.of_own (o0'.rest x9 hx),BytesIn.of_own (o1'.rest x9 hx),(OwnZ.rest oz4 x9 hx).zin⟩,(below_next bV hS4).trans (x9.below (fun x hx=>by simp at hx;omega) (below_next bV hS4).size)⟩
     exact AllReadyH.nil
   exact AllReadyH.nil
 refine rX 6 (.slice (some ⟨V.heap.size,0,none⟩) 0 0) #[] 3 (below_next hS ((Below.refl _ _).alloc (Nat.le_refl _) _)) ?_ ?_
 · have hb:Below V.heap.size V (V.alloc (.cells #[] 3)):=(Below.refl _ _).alloc (Nat.le_refl _) _
   have oz:=(show OwnZ V.heap.size (V.alloc (.cells #[] 3)) (.slice (some ⟨V.heap.size,0,none⟩) 0 0) [] from World.ownsRow_lit V #[] 0 hS.size (by decide) rfl)
   replace hS:=below_next hS hb
   generalize V.alloc (.cells #[] 3)=w1 at *
   (try simp only [pS])
   refine wpAnyH_ready (rs:=[2]) (by kernel_rfl) (by simp) ?_
   refine rC 2 (copied_any _ d.enc.n d.enc.b hl.1 w1 (D0.out.keep hS)) (fun e w2 hr => ?_) ?_
   · obtain ⟨s0,rfl,o0,hb⟩:=hr
     replace o0:=o0.base hS.size
     replace hS:=below_next hS hb
     refine ⟨_,rfl,hS,?_⟩
     (try simp only [pS])
     replace oz:=oz.below hb
     refine wpAnyH_ready (rs:=[5]) (by kernel_rfl) (by simp) ?_
     refine rC 5 (copied_any _ d.hash.n d.hash.b hl.2.1 w2 (D1.out.keep hS)) (fun e w3 hr => ?_) ?_
     · obtain ⟨s1,rfl,o1,hb⟩:=hr
       replace o1:=o1.base hS.size
       replace hS:=below_next hS hb
       refine ⟨_,rfl,hS,?_⟩
       (try simp only [pS])
       replace oz:=oz.below hb
       replace o0:=o0.below hb
       obtain ⟨v4,w4,hrun4,oz4,b4,gr4⟩:=run_append_ints' w3 V.heap.size _ [] d.um _ oz (D2.out.keep hS) (by have:=hl.2.2;simp;omega) hS.size
       have o0':Own V.heap.size w4 _ d.enc.n d.enc.b:=own_unlike o0 oz (by decide) gr4
       have o1':Own V.heap.size w4 _ d.hash.n d.hash.b:=own_unlike o1 oz (by decide) gr4
       obtain ⟨y0,e0,ey0⟩:=o0'.slice
       obtain ⟨y1,e1,ey1⟩:=o1'.slice
       obtain ⟨y2,e2,ey2⟩:=oz4.slice
       rw [List.nil_append] at ey2
       subst ey0 ey1 ey2
       have hS4:=hS.trans b4
       refine onlyV 9 (v := .slice y2 d.um.length e2) ?_ hS4 ?_
       · exact exec_appZ (.tmp 9) (.tmp 11) rfl rfl rfl rfl hrun4
       (try simp only [pS])
       refine tg 10 hS4 (v := .agg #[.slice y0 d.enc.n e0,.slice y1 d.hash.n e1,.slice y2 d.um.length e2]) ?_ (hy:=by intro u _;kernel_rfl)
       (try simp only [pS])
       refine wpAnyH_done (by kernel_rfl) ?_ _
       have k2:=K2.out.still hS4
       refine lastRow 11 45 2 13 [.slice y0 d.enc.n e0,.slice y1 d.hash.n e1,.slice y2 d.um.length e2] k2 rfl infoP3 (by simp [Value.oneCell']) (fun rr => ?_)
       refine NoPanic.normal ?_
       go_wp2
       refine bodyPost_ret (results_cell_mid Try.results19 _ _ (w.heap.size+1) 0 [.slice y0 d.enc.n e0,.slice y1 d.hash.n e1,.slice y2 d.um.length e2] _ rfl rr.range Try.underlying45 rfl infoP3) rfl ?_
       have x9:Rest [w.heap.size+1] w4 (w4.setCells (w.heap.size+1) 0 [.slice y0 d.enc.n e0,.slice y1 d.hash.n e1,.slice y2 d.um.length e2]):=Rest.of_out (Out.setCells (b:=w.heap.size+1) (o:=0) (n:=3) w4 _ (Nat.le_refl _) (Nat.le_refl _)) (by simp)
       have hx:∀ x,x∈[w.heap.size+1]→x<V.heap.size:=fun x hx=>by simp at hx;have:=SV.out;omega
       exact ⟨[.slice y0 d.enc.n e0,.slice y1 d.hash.n e1,.slice y2 d.um.length e2],rfl,⟨_,_,_,rfl,BytesIn.of_own (o0'.rest x9 hx),BytesIn.of_own (o1'.rest x9 hx),(OwnZ.rest oz4 x9 hx).zin⟩,(below_next bV hS4).trans (x9.below (fun x hx=>by simp at hx;omega) (below_next bV hS4).size)⟩
     exact AllReadyH.nil
   exact AllReadyH.nil
 exact AllReadyH.nil
def pkL (d:PkD):Prop:=d.init.n<140737488355000∧lfL d.leaf∧d.sg.n<140737488355000
set_option maxRecDepth 20000 in
set_option maxHeartbeats 1000000 in
theorem mkPackage_any (cs:List Value) (d:PkD) (hl:pkL d) (w:World) (hd:PkIn w cs d):Calls Try.prog 25 #[.agg cs.toArray] w fun e w'=>∃ cs',e = .returned (.agg cs'.toArray)∧PkIn w' cs' d∧Below w.heap.size w w':=by
 obtain ⟨x0,c0,u0,u1,u2,u4,u5,x7,c7,rfl,h0,hlf,h7⟩:=hd.form
 clear hd
 have hlf':=hlf
 obtain ⟨y0,e0,y1,e1,y2,e2,y4,e4,y5,e5,hu,-⟩:=hlf.form
 clear hlf
 cases hu
 have k1:=RW.fresh w [.slice x0 d.init.n c0,.slice y0 d.leaf.enc.n e0,.slice y1 d.leaf.sig.n e1,.slice y2 d.leaf.name.n e2,.int .i64 d.leaf.src,.slice y4 d.leaf.hash.n e4,.slice y5 d.leaf.sg.n e5,.slice x7 d.sg.n c7] 56
 have b1:Below w.heap.size w (w.alloc (.cells #[.slice x0 d.init.n c0,.slice y0 d.leaf.enc.n e0,.slice y1 d.leaf.sig.n e1,.slice y2 d.leaf.name.n e2,.int .i64 d.leaf.src,.slice y4 d.leaf.hash.n e4,.slice y5 d.leaf.sg.n e5,.slice x7 d.sg.n c7] 56)):=(Below.refl _ _).alloc (Nat.le_refl _) _
 have s1:(w.alloc (.cells #[.slice x0 d.init.n c0,.slice y0 d.leaf.enc.n e0,.slice y1 d.leaf.sig.n e1,.slice y2 d.leaf.name.n e2,.int .i64 d.leaf.src,.slice y4 d.leaf.hash.n e4,.slice y5 d.leaf.sg.n e5,.slice x7 d.sg.n c7] 56)).heap.size=w.heap.size+1:=by simp
 obtain ⟨W1,hW1⟩:∃ W1,W1=w.alloc (.cells #[.slice x0 d.init.n c0,.slice y0 d.leaf.enc.n e0,.slice y1 d.leaf.sig.n e1,.slice y2 d.leaf.name.n e2,.int .i64 d.leaf.src,.slice y4 d.leaf.hash.n e4,.slice y5 d.leaf.sg.n e5,.slice x7 d.sg.n c7] 56):=⟨_,rfl⟩
 rw [show w.alloc (.cells ([.slice x0 d.init.n c0,.slice y0 d.leaf.enc.n e0,.slice y1 d.leaf.sig.n e1,.slice y2 d.leaf.name.n e2,.int .i64 d.leaf.src,.slice y4 d.leaf.hash.n e4,.slice y5 d.leaf.sg.n e5,.slice x7 d.sg.n c7]).toArray 56)=W1 from hW1.symm] at k1
 rw [←hW1] at b1 s1
 have k2:=RW.fresh W1 [.slice none 0 0,.slice none 0 0,.slice none 0 0,.slice none 0 0,.int .i64 0,.slice none 0 0,.slice none 0 0,.slice none 0 0] 58
 have b2:Below W1.heap.size W1 (W1.alloc (.cells #[.slice none 0 0,.slice none 0 0,.slice none 0 0,.slice none 0 0,.int .i64 0,.slice none 0 0,.slice none 0 0,.slice none 0 0] 58)):=(Below.refl _ _).alloc (Nat.le_refl _) _
 have s2:(W1.alloc (.cells #[.slice none 0 0,.slice none 0 0,.slice none 0 0,.slice none 0 0,.int .i64 0,.slice none 0 0,.slice none 0 0,.slice none 0 0] 58)).heap.size=W1.heap.size+1:=by simp
 obtain ⟨W,hW⟩:∃ W,W=W1.alloc (.cells #[.slice none 0 0,.slice none 0 0,.slice none 0 0,.slice none 0 0,.int .i64 0,.slice none 0 0,.slice none 0 0,.slice none 0 0] 58):=⟨_,rfl⟩
 rw [show W1.alloc (.cells [.slice none 0 0,.slice none 0 0,.slice none 0 0,.slice none 0 0,.int .i64 0,.slice none 0 0,.slice none 0 0,.slice none 0 0].toArray 58)=W from hW.symm] at k2
 rw [←hW] at b2 s2
 rw [s1] at k2 s2
 have HW:Hid (W=(w.alloc (.cells #[.slice x0 d.init.n c0,.slice y0 d.leaf.enc.n e0,.slice y1 d.leaf.sig.n e1,.slice y2 d.leaf.name.n e2,.int .i64 d.leaf.src,.slice y4 d.leaf.hash.n e4,.slice y5 d.leaf.sg.n e5,.slice x7 d.sg.n c7] 56)).alloc (.cells #[.slice none 0 0,.slice none 0 0,.slice none 0 0,.slice none 0 0,.int .i64 0,.slice none 0 0,.slice none 0 0,.slice none 0 0] 58)):=Hid.mk' (by rw [hW,hW1])
 have bd:Below W.heap.size W W.drew:=(Below.refl _ _).drew
 have bV:=below_next (below_next b1 b2) bd
 have K1:=Hid.mk' ((k1.still b2).still bd)
 have K2:=Hid.mk' (k2.still bd)
 have D0:=Hid.mk' (h0.keep bV)
 have D1:=Hid.mk' (hlf'.keep bV)
 have D7:=Hid.mk' (h7.keep bV)
 have sV:W.drew.heap.size=w.heap.size+1+1:=s2
 have SV:=Hid.mk' sV
 clear hW hW1 k1 k2 b1 b2 s1 s2 bd sV h0 hlf' h7
 go_enter Try.func25,Try.ntmps25
 go_upto_region 1 with (fail)
 rw [←HW.out]
 refine wp_last 10 (S:=fun u=>Below W.drew.heap.size W.drew u) (by kernel_rfl) (by kernel_rfl) (by kernel_rfl) (by kernel_rfl) (Below.refl _ _) (fun hS => ?_)
 clear HW
 generalize W.drew=V at *
 refine tg 0 hS (v:=pA w.heap.size 0) ?_ (hy:=by intro u _;kernel_rfl)
 (try simp only [pS])
 refine tc 1 hS (fun u hu=>(hu.cell (p:=⟨w.heap.size,0,none⟩) K1.out.lt).trans (K1.out.cell (o:=0) rfl)) ?_
 (try simp only [pS])
 refine tg 3 hS (v:=pA w.heap.size 1) ?_ (hy:=by intro u _;kernel_rfl)
 (try simp only [pS])
 refine tR 4 hS 24 [.slice y0 d.leaf.enc.n e0,.slice y1 d.leaf.sig.n e1,.slice y2 d.leaf.name.n e2,.int .i64 d.leaf.src,.slice y4 d.leaf.hash.n e4,.slice y5 d.leaf.sg.n e5] Try.underlying24 infoRL (fun u hu=>(row_mid (K1.out.still hu)).range) ?_
 (try simp only [pS])
 refine tg 6 hS (v:=pA w.heap.size 7) ?_ (hy:=by intro u _;kernel_rfl)
 (try simp only [pS])
 refine tc 7 hS (fun u hu=>(hu.cell (p:=⟨w.heap.size,7,none⟩) K1.out.lt).trans (K1.out.cell (o:=7) rfl)) ?_
 (try simp only [pS])
 refine cl 2 (copied_any _ d.init.n d.init.b hl.1 V (D0.out.keep hS)) (fun e w1 hr => ?_)
 obtain ⟨s0,rfl,o0,hb⟩:=hr
 replace o0:=o0.base hS.size
 replace hS:=below_next hS hb
 obtain ⟨z0,f0,rfl⟩:=o0.slice
 refine ⟨_,rfl,hS,?_⟩
 (try simp only [pS])
 refine cl 5 (mkLeafO_any _ d.leaf hl.2.1 w1 (D1.out.keep hS)) (fun e w2 hr => ?_)
 obtain ⟨q0,g0,q1,g1,q2,g2,q4,g4,q5,g5,rfl,l0,l1,l2,l4,l5,hb⟩:=hr
 replace l0:=l0.base hS.size
 replace l1:=l1.base hS.size
 replace l2:=l2.base hS.size
 replace l4:=l4.base hS.size
 replace l5:=l5.base hS.size
 replace hS:=below_next hS hb
 replace o0:=o0.below hb
 refine ⟨_,rfl,hS,?_⟩
 (try simp only [pS])
 refine cl 8 (copied_any _ d.sg.n d.sg.b hl.2.2 w2 (D7.out.keep hS)) (fun e w3 hr => ?_)
 obtain ⟨s7,rfl,o7,hb⟩:=hr
 replace o7:=o7.base hS.size
 replace hS:=below_next hS hb
 replace o0:=o0.below hb
 replace l0:=l0.below hb
 replace l1:=l1.below hb
 replace l2:=l2.below hb
 replace l4:=l4.below hb
 replace l5:=l5.below hb
 obtain ⟨z7,f7,rfl⟩:=o7.slice
 refine ⟨_,rfl,hS,?_⟩
 (try simp only [pS])
 refine tg 9 hS (v := .agg #[.slice z0 d.init.n f0,.slice q0 d.leaf.enc.n g0,.slice q1 d.leaf.sig.n g1,.slice q2 d.leaf.name.n g2,.int .i64 d.leaf.src,.slice q4 d.leaf.hash.n g4,.slice q5 d.leaf.sg.n g5,.slice z7 d.sg.n f7]) ?_ (hy:=by intro u _;kernel_rfl)
 (try simp only [pS])
 refine wpAnyH_done (by kernel_rfl) ?_ _
 have k2:=K2.out.still hS
 refine lastRow 10 58 2 12 [.slice z0 d.init.n f0,.slice q0 d.leaf.enc.n g0,.slice q1 d.leaf.sig.n g1,.slice q2 d.leaf.name.n g2,.int .i64 d.leaf.src,.slice q4 d.leaf.hash.n g4,.slice q5 d.leaf.sg.n g5,.slice z7 d.sg.n f7] k2 rfl infoK8 (by simp [Value.oneCell']) (fun rr => ?_)
 refine NoPanic.normal ?_
 go_wp2
 refine bodyPost_ret (results_cell_mid Try.results25 _ _ (w.heap.size+1) 0 [.slice z0 d.init.n f0,.slice q0 d.leaf.enc.n g0,.slice q1 d.leaf.sig.n g1,.slice q2 d.leaf.name.n g2,.int .i64 d.leaf.src,.slice q4 d.leaf.hash.n g4,.slice q5 d.leaf.sg.n g5,.slice z7 d.sg.n f7] _ rfl rr.range Try.underlying58 rfl infoK8) rfl ?_
 have x9:Rest [w.heap.size+1] w3 (w3.setCells (w.heap.size+1) 0 [.slice z0 d.init.n f0,.slice q0 d.leaf.enc.n g0,.slice q1 d.leaf.sig.n g1,.slice q2 d.leaf.name.n g2,.int .i64 d.leaf.src,.slice q4 d.leaf.hash.n g4,.slice q5 d.leaf.sg.n g5,.slice z7 d.sg.n f7]):=Rest.of_out (Out.setCells (b:=w.heap.size+1) (o:=0) (n:=8) w3 _ (Nat.le_refl _) (Nat.le_refl _)) (by simp)
 have hx:∀ x,x∈[w.heap.size+1]→x<V.heap.size:=fun x hx=>by simp at hx;have:=SV.out;omega
 exact ⟨[.slice z0 d.init.n f0,.slice q0 d.leaf.enc.n g0,.slice q1 d.leaf.sig.n g1,.slice q2 d.leaf.name.n g2,.int .i64 d.leaf.src,.slice q4 d.leaf.hash.n g4,.slice q5 d.leaf.sg.n g5,.slice z7 d.sg.n f7],rfl,⟨_,[.slice q0 d.leaf.enc.n g0,.slice q1 d.leaf.sig.n g1,.slice q2 d.leaf.name.n g2,.int .i64 d.leaf.src,.slice q4 d.leaf.hash.n g4,.slice q5 d.leaf.sg.n g5],_,rfl,BytesIn.of_own (o0.rest x9 hx),⟨_,_,_,_,_,rfl,BytesIn.of_own (l0.rest x9 hx),BytesIn.of_own (l1.rest x9 hx),BytesIn.of_own (l2.rest x9 hx),BytesIn.of_own (l4.rest x9 hx),BytesIn.of_own (l5.rest x9 hx)⟩,BytesIn.of_own (o7.rest x9 hx)⟩,(below_next bV hS).trans (x9.below (fun x hx=>by simp at hx;omega) (below_next bV hS).size)⟩
end Go.Proofs.Ytgdcmibdjiaofaa
namespace Go.Proofs.Ytgdcmibdjiaofaa
open Go.RowKit
theorem ba_un {s t:ByteArray} (h:¬s=t):¬s.toList=t.toList:=fun e=>h (by
 rw [ByteArray.toList_eq,ByteArray.toList_eq] at e
 exact ByteArray.ext (Array.toList_inj.1 e))
def Tx.s (t:Tx):ByteArray:=strB t.n t.b
def sameL (a b:LfD):Bool:=decide (a.enc.s=b.enc.s) && decide (a.sig.s=b.sig.s) && decide (a.name.s=b.name.s) && decide (a.src=b.src) && decide (a.hash.s=b.hash.s) && decide (a.sg.s=b.sg.s)
def Cv (w:World) (v:Value) (s:ByteArray):Prop:=∀ W,Below w.heap.size w W→(convert 22 9 v).run Try.prog W = .ok (.string s) W
theorem BytesIn.cv {w:World} {v:Value} {t:Tx} (h:BytesIn w v t.n t.b) (l:∀ j,t.b j<256):Cv w v t.s:=fun W hb=>h.conv l W hb
theorem Cv.keep {w w':World} {v:Value} {s:ByteArray} (h:Cv w v s) (hb:Below w.heap.size w w'):Cv w' v s:=fun W hW=>h W (below_next hb hW)
set_option maxRecDepth 20000 in
set_option maxHeartbeats 1000000 in
theorem sL_0 (a0 a1 a2 a4 a5 b0 b1 b2 b4 b5:Value) (s t:Int) (S0 T0:ByteArray) (h:¬S0=T0) (w:World) (p0:Cv w a0 S0) (q0:Cv w b0 T0):Calls Try.prog 16 #[.agg #[a0,a1,a2,.int .i64 s,a4,a5],.agg #[b0,b1,b2,.int .i64 t,b4,b5]] w fun e w'=>e = .returned (.bool false)∧Below w.heap.size w w':=by
 have k1:=RW.fresh w [a0,a1,a2,.int .i64 s,a4,a5] 26
 have b1':Below w.heap.size w (w.alloc (.cells #[a0,a1,a2,.int .i64 s,a4,a5] 26)):=(Below.refl _ _).alloc (Nat.le_refl _) _
 have s1:(w.alloc (.cells #[a0,a1,a2,.int .i64 s,a4,a5] 26)).heap.size=w.heap.size+1:=by simp
 obtain ⟨W1,hW1⟩:∃ W1,W1=w.alloc (.cells #[a0,a1,a2,.int .i64 s,a4,a5] 26):=⟨_,rfl⟩
 rw [show w.alloc (.cells ([a0,a1,a2,.int .i64 s,a4,a5]).toArray 26)=W1 from hW1.symm] at k1
 rw [←hW1] at b1' s1
 have k2:=RW.fresh W1 [b0,b1,b2,.int .i64 t,b4,b5] 24
 have b2':Below W1.heap.size W1 (W1.alloc (.cells #[b0,b1,b2,.int .i64 t,b4,b5] 24)):=(Below.refl _ _).alloc (Nat.le_refl _) _
 obtain ⟨W,hW⟩:∃ W,W=W1.alloc (.cells #[b0,b1,b2,.int .i64 t,b4,b5] 24):=⟨_,rfl⟩
 rw [show W1.alloc (.cells ([b0,b1,b2,.int .i64 t,b4,b5]).toArray 24)=W from hW.symm] at k2
 rw [←hW] at b2'
 rw [s1] at k2
 replace k1:=k1.still b2'
 have HW:Hid (W=(w.alloc (.cells #[a0,a1,a2,.int .i64 s,a4,a5] 26)).alloc (.cells #[b0,b1,b2,.int .i64 t,b4,b5] 24)):=Hid.mk' (by rw [hW,hW1])
 have bW:=below_next b1' b2'
 replace p0:=p0 W bW
 replace q0:=q0 W bW
 have c0:=k1.cell (o:=0) rfl
 have d0:=k2.cell (o:=0) rfl
 have hne:=ba_un h
 clear hW hW1 k1 k2 b1' b2' s1
 go_enter Try.func16,Try.ntmps16
 go_upto_region 1 with (fail)
 rw [←HW.out]
 go_wp2
 go_ret
 exact ⟨by first | rfl | (show Ending.returned (.bool (S0.toList == T0.toList))=_;rw [show (S0.toList == T0.toList)=false from by simpa using hne]),bW⟩
set_option maxRecDepth 20000 in
set_option maxHeartbeats 1000000 in
theorem sL_1 (a0 a1 a2 a4 a5 b0 b1 b2 b4 b5:Value) (s t:Int) (S0 S1 T1:ByteArray) (h:¬S1=T1) (w:World) (p0:Cv w a0 S0) (q0:Cv w b0 S0) (p1:Cv w a1 S1) (q1:Cv w b1 T1):Calls Try.prog 16 #[.agg #[a0,a1,a2,.int .i64 s,a4,a5],.agg #[b0,b1,b2,.int .i64 t,b4,b5]] w fun e w'=>e = .returned (.bool false)∧Below w.heap.size w w':=by
 have k1:=RW.fresh w [a0,a1,a2,.int .i64 s,a4,a5] 26
 have b1':Below w.heap.size w (w.alloc (.cells #[a0,a1,a2,.int .i64 s,a4,a5] 26)):=(Below.refl _ _).alloc (Nat.le_refl _) _
 have s1:(w.alloc (.cells #[a0,a1,a2,.int .i64 s,a4,a5] 26)).heap.size=w.heap.size+1:=by simp
 obtain ⟨W1,hW1⟩:∃ W1,W1=w.alloc (.cells #[a0,a1,a2,.int .i64 s,a4,a5] 26):=⟨_,rfl⟩
 rw [show w.alloc (.cells ([a0,a1,a2,.int .i64 s,a4,a5]).toArray 26)=W1 from hW1.symm] at k1
 rw [←hW1] at b1' s1
 have k2:=RW.fresh W1 [b0,b1,b2,.int .i64 t,b4,b5] 24
 have b2':Below W1.heap.size W1 (W1.alloc (.cells #[b0,b1,b2,.int .i64 t,b4,b5] 24)):=(Below.refl _ _).alloc (Nat.le_refl _) _
 obtain ⟨W,hW⟩:∃ W,W=W1.alloc (.cells #[b0,b1,b2,.int .i64 t,b4,b5] 24):=⟨_,rfl⟩
 rw [show W1.alloc (.cells ([b0,b1,b2,.int .i64 t,b4,b5]).toArray 24)=W from hW.symm] at k2
 rw [←hW] at b2'
 rw [s1] at k2
 replace k1:=k1.still b2'
 have HW:Hid (W=(w.alloc (.cells #[a0,a1,a2,.int .i64 s,a4,a5] 26)).alloc (.cells #[b0,b1,b2,.int .i64 t,b4,b5] 24)):=Hid.mk' (by rw [hW,hW1])
 have bW:=below_next b1' b2'
 replace p0:=p0 W bW
 replace q0:=q0 W bW
 replace p1:=p1 W bW
 replace q1:=q1 W bW
 have c0:=k1.cell (o:=0) rfl
 have d0:=k2.cell (o:=0) rfl
 have c1:=k1.cell (o:=1) rfl
 have d1:=k2.cell (o:=1) rfl
 have hne:=ba_un h
 clear hW hW1 k1 k2 b1' b2' s1
 go_enter Try.func16,Try.ntmps16
 go_upto_region 1 with (fail)
 rw [←HW.out]
 go_wp2
 go_ret
 exact ⟨by first | rfl | (show Ending.returned (.bool (S1.toList == T1.toList))=_;rw [show (S1.toList == T1.toList)=false from by simpa using hne]),bW⟩
set_option maxRecDepth 20000 in
set_option maxHeartbeats 1000000 in
theorem sL_2 (a0 a1 a2 a4 a5 b0 b1 b2 b4 b5:Value) (s t:Int) (S0 S1 S2 T2:ByteArray) (h:¬S2=T2) (w:World) (p0:Cv w a0 S0) (q0:Cv w b0 S0) (p1:Cv w a1 S1) (q1:Cv w b1 S1) (p2:Cv w a2 S2) (q2:Cv w b2 T2):Calls Try.prog 16 #[.agg #[a0,a1,a2,.int .i64 s,a4,a5],.agg #[b0,b1,b2,.int .i64 t,b4,b5]] w fun e w'=>e = .returned (.bool false)∧Below w.heap.size w w':=by
 have k1:=RW.fresh w [a0,a1,a2,.int .i64 s,a4,a5] 26
 have b1':Below w.heap.size w (w.alloc (.cells #[a0,a1,a2,.int .i64 s,a4,a5] 26)):=(Below.refl _ _).alloc (Nat.le_refl _) _
 have s1:(w.alloc (.cells #[a0,a1,a2,.int .i64 s,a4,a5] 26)).heap.size=w.heap.size+1:=by simp
 obtain ⟨W1,hW1⟩:∃ W1,W1=w.alloc (.cells #[a0,a1,a2,.int .i64 s,a4,a5] 26):=⟨_,rfl⟩
 rw [show w.alloc (.cells ([a0,a1,a2,.int .i64 s,a4,a5]).toArray 26)=W1 from hW1.symm] at k1
 rw [←hW1] at b1' s1
 have k2:=RW.fresh W1 [b0,b1,b2,.int .i64 t,b4,b5] 24
 have b2':Below W1.heap.size W1 (W1.alloc (.cells #[b0,b1,b2,.int .i64 t,b4,b5] 24)):=(Below.refl _ _).alloc (Nat.le_refl _) _
 obtain ⟨W,hW⟩:∃ W,W=W1.alloc (.cells #[b0,b1,b2,.int .i64 t,b4,b5] 24):=⟨_,rfl⟩
 rw [show W1.alloc (.cells ([b0,b1,b2,.int .i64 t,b4,b5]).toArray 24)=W from hW.symm] at k2
 rw [←hW] at b2'
 rw [s1] at k2
 replace k1:=k1.still b2'
 have HW:Hid (W=(w.alloc (.cells #[a0,a1,a2,.int .i64 s,a4,a5] 26)).alloc (.cells #[b0,b1,b2,.int .i64 t,b4,b5] 24)):=Hid.mk' (by rw [hW,hW1])
 have bW:=below_next b1' b2'
 replace p0:=p0 W bW
 replace q0:=q0 W bW
 replace p1:=p1 W bW
 replace q1:=q1 W bW
 replace p2:=p2 W bW
 replace q2:=q2 W bW
 have c0:=k1.cell (o:=0) rfl
 have d0:=k2.cell (o:=0) rfl
 have c1:=k1.cell (o:=1) rfl
 have d1:=k2.cell (o:=1) rfl
 have c2:=k1.cell (o:=2) rfl
 have d2:=k2.cell (o:=2) rfl
 have hne:=ba_un h
 clear hW hW1 k1 k2 b1' b2' s1
 go_enter Try.func16,Try.ntmps16
 go_upto_region 1 with (fail)
 rw [←HW.out]
 go_wp2
 go_ret
 exact ⟨by first | rfl | (show Ending.returned (.bool (S2.toList == T2.toList))=_;rw [show (S2.toList == T2.toList)=false from by simpa using hne]),bW⟩
set_option maxRecDepth 20000 in
set_option maxHeartbeats 1000000 in
theorem sL_3 (a0 a1 a2 a4 a5 b0 b1 b2 b4 b5:Value) (s t:Int) (S0 S1 S2:ByteArray) (h:¬s=t) (w:World) (p0:Cv w a0 S0) (q0:Cv w b0 S0) (p1:Cv w a1 S1) (q1:Cv w b1 S1) (p2:Cv w a2 S2) (q2:Cv w b2 S2):Calls Try.prog 16 #[.agg #[a0,a1,a2,.int .i64 s,a4,a5],.agg #[b0,b1,b2,.int .i64 t,b4,b5]] w fun e w'=>e = .returned (.bool false)∧Below w.heap.size w w':=by
 have k1:=RW.fresh w [a0,a1,a2,.int .i64 s,a4,a5] 26
 have b1':Below w.heap.size w (w.alloc (.cells #[a0,a1,a2,.int .i64 s,a4,a5] 26)):=(Below.refl _ _).alloc (Nat.le_refl _) _
 have s1:(w.alloc (.cells #[a0,a1,a2,.int .i64 s,a4,a5] 26)).heap.size=w.heap.size+1:=by simp
 obtain ⟨W1,hW1⟩:∃ W1,W1=w.alloc (.cells #[a0,a1,a2,.int .i64 s,a4,a5] 26):=⟨_,rfl⟩
 rw [show w.alloc (.cells ([a0,a1,a2,.int .i64 s,a4,a5]).toArray 26)=W1 from hW1.symm] at k1
 rw [←hW1] at b1' s1
 have k2:=RW.fresh W1 [b0,b1,b2,.int .i64 t,b4,b5] 24
 have b2':Below W1.heap.size W1 (W1.alloc (.cells #[b0,b1,b2,.int .i64 t,b4,b5] 24)):=(Below.refl _ _).alloc (Nat.le_refl _) _
 obtain ⟨W,hW⟩:∃ W,W=W1.alloc (.cells #[b0,b1,b2,.int .i64 t,b4,b5] 24):=⟨_,rfl⟩
 rw [show W1.alloc (.cells ([b0,b1,b2,.int .i64 t,b4,b5]).toArray 24)=W from hW.symm] at k2
 rw [←hW] at b2'
 rw [s1] at k2
 replace k1:=k1.still b2'
 have HW:Hid (W=(w.alloc (.cells #[a0,a1,a2,.int .i64 s,a4,a5] 26)).alloc (.cells #[b0,b1,b2,.int .i64 t,b4,b5] 24)):=Hid.mk' (by rw [hW,hW1])
 have bW:=below_next b1' b2'
 replace p0:=p0 W bW
 replace q0:=q0 W bW
 replace p1:=p1 W bW
 replace q1:=q1 W bW
 replace p2:=p2 W bW
 replace q2:=q2 W bW
 have c0:=k1.cell (o:=0) rfl
 have d0:=k2.cell (o:=0) rfl
 have c1:=k1.cell (o:=1) rfl
 have d1:=k2.cell (o:=1) rfl
 have c2:=k1.cell (o:=2) rfl
 have d2:=k2.cell (o:=2) rfl
 have c3:=k1.cell (o:=3) rfl
 have d3:=k2.cell (o:=3) rfl
 clear hW hW1 k1 k2 b1' b2' s1
 go_enter Try.func16,Try.ntmps16
 go_upto_region 1 with (fail)
 rw [←HW.out]
 go_wp2
 go_ret
 exact ⟨by first | rfl | (show Ending.returned (.bool (s == t))=_;rw [show (s == t)=false from by simpa using h]),bW⟩
set_option maxRecDepth 20000 in
set_option maxHeartbeats 1000000 in
theorem sL_4 (a0 a1 a2 a4 a5 b0 b1 b2 b4 b5:Value) (s:Int) (S0 S1 S2 S4 T4:ByteArray) (h:¬S4=T4) (w:World) (p0:Cv w a0 S0) (q0:Cv w b0 S0) (p1:Cv w a1 S1) (q1:Cv w b1 S1) (p2:Cv w a2 S2) (q2:Cv w b2 S2) (p4:Cv w a4 S4) (q4:Cv w b4 T4):Calls Try.prog 16 #[.agg #[a0,a1,a2,.int .i64 s,a4,a5],.agg #[b0,b1,b2,.int .i64 s,b4,b5]] w fun e w'=>e = .returned (.bool false)∧Below w.heap.size w w':=by
 have k1:=RW.fresh w [a0,a1,a2,.int .i64 s,a4,a5] 26
 have b1':Below w.heap.size w (w.alloc (.cells #[a0,a1,a2,.int .i64 s,a4,a5] 26)):=(Below.refl _ _).alloc (Nat.le_refl _) _
 have s1:(w.alloc (.cells #[a0,a1,a2,.int .i64 s,a4,a5] 26)).heap.size=w.heap.size+1:=by simp
 obtain ⟨W1,hW1⟩:∃ W1,W1=w.alloc (.cells #[a0,a1,a2,.int .i64 s,a4,a5] 26):=⟨_,rfl⟩
 rw [show w.alloc (.cells ([a0,a1,a2,.int .i64 s,a4,a5]).toArray 26)=W1 from hW1.symm] at k1
 rw [←hW1] at b1' s1
 have k2:=RW.fresh W1 [b0,b1,b2,.int .i64 s,b4,b5] 24
 have b2':Below W1.heap.size W1 (W1.alloc (.cells #[b0,b1,b2,.int .i64 s,b4,b5] 24)):=(Below.refl _ _).alloc (Nat.le_refl _) _
 obtain ⟨W,hW⟩:∃ W,W=W1.alloc (.cells #[b0,b1,b2,.int .i64 s,b4,b5] 24):=⟨_,rfl⟩
 rw [show W1.alloc (.cells ([b0,b1,b2,.int .i64 s,b4,b5]).toArray 24)=W from hW.symm] at k2
 rw [←hW] at b2'
 rw [s1] at k2
 replace k1:=k1.still b2'
 have HW:Hid (W=(w.alloc (.cells #[a0,a1,a2,.int .i64 s,a4,a5] 26)).alloc (.cells #[b0,b1,b2,.int .i64 s,b4,b5] 24)):=Hid.mk' (by rw [hW,hW1])
 have bW:=below_next b1' b2'
 replace p0:=p0 W bW
 replace q0:=q0 W bW
 replace p1:=p1 W bW
 replace q1:=q1 W bW
 replace p2:=p2 W bW
 replace q2:=q2 W bW
 replace p4:=p4 W bW
 replace q4:=q4 W bW
 have c0:=k1.cell (o:=0) rfl
 have d0:=k2.cell (o:=0) rfl
 have c1:=k1.cell (o:=1) rfl
 have d1:=k2.cell (o:=1) rfl
 have c2:=k1.cell (o:=2) rfl
 have d2:=k2.cell (o:=2) rfl
 have c3:=k1.cell (o:=3) rfl
 have d3:=k2.cell (o:=3) rfl
 have c4:=k1.cell (o:=4) rfl
 have d4:=k2.cell (o:=4) rfl
 have hne:=ba_un h
 clear hW hW1 k1 k2 b1' b2' s1
 go_enter Try.func16,Try.ntmps16
 go_upto_region 1 with (fail)
 rw [←HW.out]
 go_wp2
 go_ret
 exact ⟨by first | rfl | (show Ending.returned (.bool (S4.toList == T4.toList))=_;rw [show (S4.toList == T4.toList)=false from by simpa using hne]),bW⟩
set_option maxRecDepth 20000 in
set_option maxHeartbeats 1000000 in
theorem sL_5 (a0 a1 a2 a4 a5 b0 b1 b2 b4 b5:Value) (s:Int) (S0 S1 S2 S4 S5 T5:ByteArray) (h:¬S5=T5) (w:World) (p0:Cv w a0 S0) (q0:Cv w b0 S0) (p1:Cv w a1 S1) (q1:Cv w b1 S1) (p2:Cv w a2 S2) (q2:Cv w b2 S2) (p4:Cv w a4 S4) (q4:Cv w b4 S4) (p5:Cv w a5 S5) (q5:Cv w b5 T5):Calls Try.prog 16 #[.agg #[a0,a1,a2,.int .i64 s,a4,a5],.agg #[b0,b1,b2,.int .i64 s,b4,b5]] w fun e w'=>e = .returned (.bool false)∧Below w.heap.size w w':=by
 have k1:=RW.fresh w [a0,a1,a2,.int .i64 s,a4,a5] 26
 have b1':Below w.heap.size w (w.alloc (.cells #[a0,a1,a2,.int .i64 s,a4,a5] 26)):=(Below.refl _ _).alloc (Nat.le_refl _) _
 have s1:(w.alloc (.cells #[a0,a1,a2,.int .i64 s,a4,a5] 26)).heap.size=w.heap.size+1:=by simp
 obtain ⟨W1,hW1⟩:∃ W1,W1=w.alloc (.cells #[a0,a1,a2,.int .i64 s,a4,a5] 26):=⟨_,rfl⟩
 rw [show w.alloc (.cells ([a0,a1,a2,.int .i64 s,a4,a5]).toArray 26)=W1 from hW1.symm] at k1
 rw [←hW1] at b1' s1
 have k2:=RW.fresh W1 [b0,b1,b2,.int .i64 s,b4,b5] 24
 have b2':Below W1.heap.size W1 (W1.alloc (.cells #[b0,b1,b2,.int .i64 s,b4,b5] 24)):=(Below.refl _ _).alloc (Nat.le_refl _) _
 obtain ⟨W,hW⟩:∃ W,W=W1.alloc (.cells #[b0,b1,b2,.int .i64 s,b4,b5] 24):=⟨_,rfl⟩
 rw [show W1.alloc (.cells ([b0,b1,b2,.int .i64 s,b4,b5]).toArray 24)=W from hW.symm] at k2
 rw [←hW] at b2'
 rw [s1] at k2
 replace k1:=k1.still b2'
 have HW:Hid (W=(w.alloc (.cells #[a0,a1,a2,.int .i64 s,a4,a5] 26)).alloc (.cells #[b0,b1,b2,.int .i64 s,b4,b5] 24)):=Hid.mk' (by rw [hW,hW1])
 have bW:=below_next b1' b2'
 replace p0:=p0 W bW
 replace q0:=q0 W bW
 replace p1:=p1 W bW
 replace q1:=q1 W bW
 replace p2:=p2 W bW
 replace q2:=q2 W bW
 replace p4:=p4 W bW
 replace q4:=q4 W bW
 replace p5:=p5 W bW
 replace q5:=q5 W bW
 have c0:=k1.cell (o:=0) rfl
 have d0:=k2.cell (o:=0) rfl
 have c1:=k1.cell (o:=1) rfl
 have d1:=k2.cell (o:=1) rfl
 have c2:=k1.cell (o:=2) rfl
 have d2:=k2.cell (o:=2) rfl
 have c3:=k1.cell (o:=3) rfl
 have d3:=k2.cell (o:=3) rfl
 have c4:=k1.cell (o:=4) rfl
 have d4:=k2.cell (o:=4) rfl
 have c5:=k1.cell (o:=5) rfl
 have d5:=k2.cell (o:=5) rfl
 have hne:=ba_un h
 clear hW hW1 k1 k2 b1' b2' s1
 go_enter Try.func16,Try.ntmps16
 go_upto_region 1 with (fail)
 rw [←HW.out]
 go_wp2
 go_ret
 exact ⟨by first | rfl | (show Ending.returned (.bool (S5.toList == T5.toList))=_;rw [show (S5.toList == T5.toList)=false from by simpa using hne]),bW⟩
set_option maxRecDepth 20000 in
set_option maxHeartbeats 1000000 in
theorem sL_6 (a0 a1 a2 a4 a5 b0 b1 b2 b4 b5:Value) (s:Int) (S0 S1 S2 S4 S5:ByteArray) (w:World) (p0:Cv w a0 S0) (q0:Cv w b0 S0) (p1:Cv w a1 S1) (q1:Cv w b1 S1) (p2:Cv w a2 S2) (q2:Cv w b2 S2) (p4:Cv w a4 S4) (q4:Cv w b4 S4) (p5:Cv w a5 S5) (q5:Cv w b5 S5):Calls Try.prog 16 #[.agg #[a0,a1,a2,.int .i64 s,a4,a5],.agg #[b0,b1,b2,.int .i64 s,b4,b5]] w fun e w'=>e = .returned (.bool true)∧Below w.heap.size w w':=by
 have k1:=RW.fresh w [a0,a1,a2,.int .i64 s,a4,a5] 26
 have b1':Below w.heap.size w (w.alloc (.cells #[a0,a1,a2,.int .i64 s,a4,a5] 26)):=(Below.refl _ _).alloc (Nat.le_refl _) _
 have s1:(w.alloc (.cells #[a0,a1,a2,.int .i64 s,a4,a5] 26)).heap.size=w.heap.size+1:=by simp
 obtain ⟨W1,hW1⟩:∃ W1,W1=w.alloc (.cells #[a0,a1,a2,.int .i64 s,a4,a5] 26):=⟨_,rfl⟩
 rw [show w.alloc (.cells ([a0,a1,a2,.int .i64 s,a4,a5]).toArray 26)=W1 from hW1.symm] at k1
 rw [←hW1] at b1' s1
 have k2:=RW.fresh W1 [b0,b1,b2,.int .i64 s,b4,b5] 24
 have b2':Below W1.heap.size W1 (W1.alloc (.cells #[b0,b1,b2,.int .i64 s,b4,b5] 24)):=(Below.refl _ _).alloc (Nat.le_refl _) _
 obtain ⟨W,hW⟩:∃ W,W=W1.alloc (.cells #[b0,b1,b2,.int .i64 s,b4,b5] 24):=⟨_,rfl⟩
 rw [show W1.alloc (.cells ([b0,b1,b2,.int .i64 s,b4,b5]).toArray 24)=W from hW.symm] at k2
 rw [←hW] at b2'
 rw [s1] at k2
 replace k1:=k1.still b2'
 have HW:Hid (W=(w.alloc (.cells #[a0,a1,a2,.int .i64 s,a4,a5] 26)).alloc (.cells #[b0,b1,b2,.int .i64 s,b4,b5] 24)):=Hid.mk' (by rw [hW,hW1])
 have bW:=below_next b1' b2'
 replace p0:=p0 W bW
 replace q0:=q0 W bW
 replace p1:=p1 W bW
 replace q1:=q1 W bW
 replace p2:=p2 W bW
 replace q2:=q2 W bW
 replace p4:=p4 W bW
 replace q4:=q4 W bW
 replace p5:=p5 W bW
 replace q5:=q5 W bW
 have c0:=k1.cell (o:=0) rfl
 have d0:=k2.cell (o:=0) rfl
 have c1:=k1.cell (o:=1) rfl
 have d1:=k2.cell (o:=1) rfl
 have c2:=k1.cell (o:=2) rfl
 have d2:=k2.cell (o:=2) rfl
 have c3:=k1.cell (o:=3) rfl
 have d3:=k2.cell (o:=3) rfl
 have c4:=k1.cell (o:=4) rfl
 have d4:=k2.cell (o:=4) rfl
 have c5:=k1.cell (o:=5) rfl
 have d5:=k2.cell (o:=5) rfl
 clear hW hW1 k1 k2 b1' b2' s1
 go_enter Try.func16,Try.ntmps16
 go_upto_region 1 with (fail)
 rw [←HW.out]
 go_wp2
 go_ret
 exact ⟨rfl,bW⟩
theorem sameLeaf_any (ca cb:List Value) (a b:LfD) (ha:lfK a) (hb:lfK b) (w:World) (iA:LfIn w ca a) (iB:LfIn w cb b):Calls Try.prog 16 #[.agg ca.toArray,.agg cb.toArray] w fun e w'=>e = .returned (.bool (sameL a b))∧Below w.heap.size w w':=by
 obtain ⟨a0,a1,a2,a4,a5,rfl,i0,i1,i2,i4,i5⟩:=iA
 obtain ⟨b0,b1,b2,b4,b5,rfl,j0,j1,j2,j4,j5⟩:=iB
 have p0:=i0.cv ha.1
 have p1:=i1.cv ha.2.1
 have p2:=i2.cv ha.2.2.1
 have p4:=i4.cv ha.2.2.2.1
 have p5:=i5.cv ha.2.2.2.2
 have q0:=j0.cv hb.1
 have q1:=j1.cv hb.2.1
 have q2:=j2.cv hb.2.2.1
 have q4:=j4.cv hb.2.2.2.1
 have q5:=j5.cv hb.2.2.2.2
 unfold sameL
 generalize a.enc.s=S0 at *
 generalize a.sig.s=S1 at *
 generalize a.name.s=S2 at *
 generalize a.src=s at *
 generalize a.hash.s=S4 at *
 generalize a.sg.s=S5 at *
 generalize b.enc.s=T0 at *
 generalize b.sig.s=T1 at *
 generalize b.name.s=T2 at *
 generalize b.src=t at *
 generalize b.hash.s=T4 at *
 generalize b.sg.s=T5 at *
 by_cases h0:S0=T0
 rotate_left
 · rw [decide_eq_false h0,Bool.false_and,Bool.false_and,Bool.false_and,Bool.false_and,Bool.false_and]
   exact sL_0 a0 a1 a2 a4 a5 b0 b1 b2 b4 b5 _ _ _ _ h0 w p0 q0
 subst h0
 by_cases h1:S1=T1
 rotate_left
 · rw [decide_eq_false h1,Bool.and_false,Bool.false_and,Bool.false_and,Bool.false_and,Bool.false_and]
   exact sL_1 a0 a1 a2 a4 a5 b0 b1 b2 b4 b5 _ _ _ _ _ h1 w p0 q0 p1 q1
 subst h1
 by_cases h2:S2=T2
 rotate_left
 · rw [decide_eq_false h2,Bool.and_false,Bool.false_and,Bool.false_and,Bool.false_and]
   exact sL_2 a0 a1 a2 a4 a5 b0 b1 b2 b4 b5 _ _ _ _ _ _ h2 w p0 q0 p1 q1 p2 q2
 subst h2
 by_cases h3:s=t
 rotate_left
 · rw [decide_eq_false h3,Bool.and_false,Bool.false_and,Bool.false_and]
   exact sL_3 a0 a1 a2 a4 a5 b0 b1 b2 b4 b5 _ _ _ _ _ h3 w p0 q0 p1 q1 p2 q2
 subst h3
 by_cases h4:S4=T4
 rotate_left
 · rw [decide_eq_false h4,Bool.and_false,Bool.false_and]
   exact sL_4 a0 a1 a2 a4 a5 b0 b1 b2 b4 b5 _ _ _ _ _ _ h4 w p0 q0 p1 q1 p2 q2 p4 q4
 subst h4
 by_cases h5:S5=T5
 rotate_left
 · rw [decide_eq_false h5,Bool.and_false]
   exact sL_5 a0 a1 a2 a4 a5 b0 b1 b2 b4 b5 _ _ _ _ _ _ _ h5 w p0 q0 p1 q1 p2 q2 p4 q4 p5 q5
 subst h5
 simp only [decide_true,Bool.and_true]
 exact sL_6 a0 a1 a2 a4 a5 b0 b1 b2 b4 b5 _ _ _ _ _ _ w p0 q0 p1 q1 p2 q2 p4 q4 p5 q5
end Go.Proofs.Ytgdcmibdjiaofaa
namespace Go.Proofs.Ytgdcmibdjiaofaa
open Go.RowKit
set_option maxRecDepth 20000 in
set_option maxHeartbeats 4000000 in
theorem ints_alike (a b:Value) (l:List Int) (hl:l.length<140737488355000) (w:World) (ha:ZIn w a l) (hb:ZIn w b l):Calls Try.prog 49 #[a,b] w fun e w'=>e = .returned (.bool true)∧Below w.heap.size w w':=by
 obtain ⟨xa,ca,rfl,fa⟩:=ha
 obtain ⟨xb,cb,rfl,fb⟩:=hb
 have FA:=Hid.mk' fa
 have FB:=Hid.mk' fb
 clear fa fb
 obtain ⟨n,hn⟩:∃ n,n=l.length:=⟨_,rfl⟩
 rw [←hn] at hl ⊢
 have HN:=Hid.mk' hn
 clear hn
 go_enter Try.func49,Try.ntmps49
 go_wp2
 go_loopw [5] (fun i wr=>∃ q:Nat,q≤n∧i = .int .i64 (q:Int)∧Below w.heap.size w wr) (fun i _=>n - (intOf i).toNat)
 case atStart=>exact ⟨0,Nat.zero_le _,rfl,Below.refl _ _⟩
 case round =>
  obtain ⟨q,hq,rfl,hbw⟩:=hrel
  by_cases hlt:q<n
  · have hz:l[q]? = some l[q]!:=by
     have hql:q<l.length:=by rw [←HN.out];exact hlt
     rw [List.getElem?_eq_getElem hql]
     simp [hql]
    obtain ⟨ga,oa,rfl,la,r1⟩:=FA.out q _ hz
    obtain ⟨gb,ob,rfl,lb,r2⟩:=FB.out q _ hz
    obtain ⟨z,hz'⟩:∃ z,z=l[q]!:=⟨_,rfl⟩
    rw [←hz'] at r1 r2
    have t0:(q:Int)<(n:Int):=by omega
    have t1:(0:Int)≤(q:Int)∧(q:Int)<(n:Int):=by omega
    have t9:IntKind.i64.wrap ((q:Int)+1)=(q:Int)+1:=by simp only [IntKind.wrap_i64];omega
    have bd:Below wr.heap.size wr wr.drew:=(Below.refl _ _).drew
    have bW:=below_next hbw bd
    have s1:∀ u,Below wr.drew.heap.size wr.drew u→u.cell? ⟨ga,oa+q,none⟩=some (.int .i64 z):=fun u hu=>((below_next bW hu).cell (p:=⟨ga,oa+q,none⟩) la).trans r1
    have s2:∀ u,Below wr.drew.heap.size wr.drew u→u.cell? ⟨gb,ob+q,none⟩=some (.int .i64 z):=fun u hu=>((below_next bW hu).cell (p:=⟨gb,ob+q,none⟩) lb).trans r2
    clear hz hz' r1 r2
    go_upto_region 6 with (fail)
    refine wp_region_held_drew (S:=fun u=>Below wr.drew.heap.size wr.drew u) (by kernel_rfl) (Below.refl _ _) (fun hS => ?_)
    refine tg 0 hS ?_
    (try simp only [pS])
    refine tg 1 hS ?_
    (try simp only [pS])
    refine tg 2 hS ?_
    (try simp only [pS])
    refine tc 3 hS (fun u hu=>s1 u hu) ?_
    (try simp only [pS])
    refine tg 4 hS ?_
    (try simp only [pS])
    refine tg 5 hS ?_
    (try simp only [pS])
    refine tg 6 hS ?_
    (try simp only [pS])
    refine tc 7 hS (fun u hu=>s2 u hu) ?_
    (try simp only [pS])
    refine tg 8 hS (v := .bool false) ?_
    (try simp only [pS])
    refine wpAnyH_done (by kernel_rfl) ?_ _
    go_wp2
    go_roundw
    case rel=>exact ⟨q+1,hlt,by go_num,bW⟩
    case measure=>simp [intOf];omega
  · obtain rfl:q=n:=by omega
    have t0:¬(q:Int)<(q:Int):=by omega
    go_wp2
    go_ret
    exact ⟨rfl,hbw⟩
def sameP (a b:PrD):Prop:=a.enc.s=b.enc.s∧a.hash.s=b.hash.s∧a.um=b.um
set_option maxRecDepth 20000 in
set_option maxHeartbeats 1000000 in
theorem sameParent_ok (ca cb:List Value) (a b:PrD) (ha:prK a) (hb:prK b) (h:sameP a b) (hl:a.um.length<140737488355000) (w:World) (iA:PrIn w ca a) (iB:PrIn w cb b):Calls Try.prog 24 #[.agg ca.toArray,.agg cb.toArray] w fun e w'=>e = .returned (.bool true)∧Below w.heap.size w w':=by
 obtain ⟨a0,a1,a2,rfl,i0,i1,i2⟩:=iA
 obtain ⟨b0,b1,b2,rfl,j0,j1,j2⟩:=iB
 have p0:=i0.cv ha.1
 have p1:=i1.cv ha.2
 have q0:=j0.cv hb.1
 have q1:=j1.cv hb.2
 obtain ⟨e0,e1,e2⟩:=h
 rw [←e0] at q0
 rw [←e1] at q1
 rw [←e2] at j2
 generalize a.enc.s=S0 at *
 generalize a.hash.s=S1 at *
 have k1:=RW.fresh w [a0,a1,a2] 45
 have b1':Below w.heap.size w (w.alloc (.cells #[a0,a1,a2] 45)):=(Below.refl _ _).alloc (Nat.le_refl _) _
 have s1:(w.alloc (.cells #[a0,a1,a2] 45)).heap.size=w.heap.size+1:=by simp
 obtain ⟨W1,hW1⟩:∃ W1,W1=w.alloc (.cells #[a0,a1,a2] 45):=⟨_,rfl⟩
 rw [show w.alloc (.cells ([a0,a1,a2]).toArray 45)=W1 from hW1.symm] at k1
 rw [←hW1] at b1' s1
 have k2:=RW.fresh W1 [b0,b1,b2] 44
 have b2':Below W1.heap.size W1 (W1.alloc (.cells #[b0,b1,b2] 44)):=(Below.refl _ _).alloc (Nat.le_refl _) _
 obtain ⟨W,hW⟩:∃ W,W=W1.alloc (.cells #[b0,b1,b2] 44):=⟨_,rfl⟩
 rw [show W1.alloc (.cells ([b0,b1,b2]).toArray 44)=W from hW.symm] at k2
 rw [←hW] at b2'
 rw [s1] at k2
 replace k1:=k1.still b2'
 have HW:Hid (W=(w.alloc (.cells #[a0,a1,a2] 45)).alloc (.cells #[b0,b1,b2] 44)):=Hid.mk' (by rw [hW,hW1])
 have bW:=below_next b1' b2'
 have c:=ints_alike a2 b2 a.um hl W (i2.keep bW) (j2.keep bW)
 replace p0:=p0 W bW
 replace p1:=p1 W bW
 replace q0:=q0 W bW
 replace q1:=q1 W bW
 have c0:=k1.cell (o:=0) rfl
 have c1:=k1.cell (o:=1) rfl
 have c2:=k1.cell (o:=2) rfl
 have d0:=k2.cell (o:=0) rfl
 have d1:=k2.cell (o:=1) rfl
 have d2:=k2.cell (o:=2) rfl
 clear hW hW1 k1 k2 b1' b2' s1 i0 i1 i2 j0 j1 j2 e0 e1 e2
 go_enter Try.func24,Try.ntmps24
 go_upto_region 1 with (fail)
 rw [←HW.out]
 go_wp2_with (go_at_call 49;refine c.mono ?_;clear c;rintro e w2 ⟨rfl,b2⟩)
 go_ret
 exact ⟨rfl,below_next bW b2⟩
theorem ldCg {ops:Array Oper} {rest:List Oper} {op:Oper} {a:Act} {w:World} {Q:Exit→Act→World→Prop} (x:Operand) (ho:op.op = .load 26 x) {g o:Nat} {A B C D E F:Value} (hx:a.eval x = .pointer (some ⟨g,o,none⟩)) (hc:w.rangeAt g o [A,B,C,D,E,F])
 (h:wpList Try.prog ops Q rest (a.put op.dst (.agg #[A,B,C,D,E,F])) w) (hw:Region.wanted op (yielded ops a.tmps)=true):wpList Try.prog ops Q (op :: rest) a w :=
 wpList_load_on hw 26 x ho g o hx [A,B,C,D,E,F] _ hc Try.underlying26 rfl infoL6 h
def sameK (a b:PkD):Prop:=a.init.s=b.init.s∧sameL a.leaf b.leaf=true∧a.sg.s=b.sg.s
set_option maxRecDepth 20000 in
set_option maxHeartbeats 1000000 in
theorem samePackage_ok (ca cb:List Value) (a b:PkD) (ha:pkK a) (hb:pkK b) (h:sameK a b) (w:World) (iA:PkIn w ca a) (iB:PkIn w cb b):Calls Try.prog 30 #[.agg ca.toArray,.agg cb.toArray] w fun e w'=>e = .returned (.bool true)∧Below w.heap.size w w':=by
 obtain ⟨x0,c0',a1,a2,a3,a5,a6,x7,c7',rfl,i0,il,i7⟩:=iA.form
 obtain ⟨y0,e0',b1,b2,b3,b5,b6,y7,e7',rfl,j0,jl,j7⟩:=iB.form
 have p0:=i0.cv ha.1
 have p7:=i7.cv ha.2.2
 have q0:=j0.cv hb.1
 have q7:=j7.cv hb.2.2
 obtain ⟨e0,e1,e2⟩:=h
 rw [←e0] at q0
 rw [←e2] at q7
 generalize a.init.s=S0 at *
 generalize a.sg.s=S7 at *
 generalize hs:a.leaf.src=s at *
 generalize ht:b.leaf.src=t at *
 generalize a.init.n=n0 at *
 generalize b.init.n=m0 at *
 generalize a.sg.n=n7 at *
 generalize b.sg.n=m7 at *
 have k1:=RW.fresh w [.slice x0 n0 c0',a1,a2,a3,.int .i64 s,a5,a6,.slice x7 n7 c7'] 58
 have b1':Below w.heap.size w (w.alloc (.cells #[.slice x0 n0 c0',a1,a2,a3,.int .i64 s,a5,a6,.slice x7 n7 c7'] 58)):=(Below.refl _ _).alloc (Nat.le_refl _) _
 have s1:(w.alloc (.cells #[.slice x0 n0 c0',a1,a2,a3,.int .i64 s,a5,a6,.slice x7 n7 c7'] 58)).heap.size=w.heap.size+1:=by simp
 obtain ⟨W1,hW1⟩:∃ W1,W1=w.alloc (.cells #[.slice x0 n0 c0',a1,a2,a3,.int .i64 s,a5,a6,.slice x7 n7 c7'] 58):=⟨_,rfl⟩
 rw [show w.alloc (.cells ([.slice x0 n0 c0',a1,a2,a3,.int .i64 s,a5,a6,.slice x7 n7 c7']).toArray 58)=W1 from hW1.symm] at k1
 rw [←hW1] at b1' s1
 have k2:=RW.fresh W1 [.slice y0 m0 e0',b1,b2,b3,.int .i64 t,b5,b6,.slice y7 m7 e7'] 56
 have b2':Below W1.heap.size W1 (W1.alloc (.cells #[.slice y0 m0 e0',b1,b2,b3,.int .i64 t,b5,b6,.slice y7 m7 e7'] 56)):=(Below.refl _ _).alloc (Nat.le_refl _) _
 obtain ⟨W,hW⟩:∃ W,W=W1.alloc (.cells #[.slice y0 m0 e0',b1,b2,b3,.int .i64 t,b5,b6,.slice y7 m7 e7'] 56):=⟨_,rfl⟩
 rw [show W1.alloc (.cells ([.slice y0 m0 e0',b1,b2,b3,.int .i64 t,b5,b6,.slice y7 m7 e7']).toArray 56)=W from hW.symm] at k2
 rw [←hW] at b2'
 rw [s1] at k2
 replace k1:=k1.still b2'
 have HW:Hid (W=(w.alloc (.cells #[.slice x0 n0 c0',a1,a2,a3,.int .i64 s,a5,a6,.slice x7 n7 c7'] 58)).alloc (.cells #[.slice y0 m0 e0',b1,b2,b3,.int .i64 t,b5,b6,.slice y7 m7 e7'] 56)):=Hid.mk' (by rw [hW,hW1])
 have bW:=below_next b1' b2'
 have c:=sameLeaf_any _ _ a.leaf b.leaf ha.2.1 hb.2.1 W (il.keep bW) (jl.keep bW)
 rw [e1] at c
 have c0:=k1.cell (o:=0) rfl
 have d0:=k2.cell (o:=0) rfl
 have rA:=(row_mid k1).range
 have rB:=(row_mid k2).range
 have K1:=Hid.mk' k1
 have K2:=Hid.mk' k2
 replace p0:=p0 W bW
 replace q0:=q0 W bW
 have P7:=Hid.mk' p7
 have Q7:=Hid.mk' q7
 clear hW hW1 k1 k2 b1' b2' s1 i0 il i7 j0 jl j7 e0 e1 e2 p7 q7 hs ht iA iB
 go_enter Try.func30,Try.ntmps30
 go_upto_region 1 with (fail)
 rw [←HW.out]
 go_wp2_with (first
  | (with_reducible (refine id (?_:wpList _ _ _ _ _ _));refine ldCg _ rfl rfl rA ?_ rfl)
  | (with_reducible (refine id (?_:wpList _ _ _ _ _ _));refine ldLg _ rfl rfl rB ?_ rfl)
  | (go_at_call 16;refine c.mono ?_;clear c;rintro e w2 ⟨rfl,b2'⟩;(have c7:=(K1.out.still b2').cell (o:=7) rfl);(have d7:=(K2.out.still b2').cell (o:=7) rfl);(have p7:=P7.out w2 (below_next bW b2'));(have q7:=Q7.out w2 (below_next bW b2'))))
 go_ret
 exact ⟨rfl,below_next bW b2'⟩
end Go.Proofs.Ytgdcmibdjiaofaa
namespace Go.Proofs.Ytgdcmibdjiaofaa
open Go.RowKit
theorem num13_any (x:Int) (w:World):Calls Try.prog 15 #[.int .i64 x] w fun e w'=>e = .returned (.int .i64 x)∧w=w':=by
 go_enter Try.func15,Try.ntmps15
 go_wp2
 go_ret
 exact ⟨rfl,rfl⟩
theorem vcB_lt {n:Nat} {b:Nat→Nat} (h:∀ j,b j<256) (j:Nat):vcB n b j<256:=cat_lt (fun j=>beN_lt _ _ j) h j
theorem prB_lt {d:PrD} (h:prK d):∀ i j,prB d i j<256
 | 0,j=>vcB_lt h.1 j
 | 1,j=>vcB_lt h.2 j
 | _+2,j=>vcB_lt (fun j=>allB_lt (fun _ j=>beN_lt _ _ j) _ j) j
theorem lfB_lt {d:LfD} (h:lfK d):∀ i j,lfB d i j<256
 | 0,j=>vcB_lt h.1 j
 | 1,j=>vcB_lt h.2.1 j
 | 2,j=>vcB_lt h.2.2.1 j
 | 3,j=>beN_lt _ _ j
 | 4,j=>vcB_lt h.2.2.2.1 j
 | _+5,j=>vcB_lt h.2.2.2.2 j
theorem pkB_lt {d:PkD} (h:pkK d):∀ i j,pkB d i j<256
 | 0,j=>beN_lt _ _ j
 | 1,j=>beN_lt _ _ j
 | 2,j=>vcB_lt h.1 j
 | 3,j=>lfB_lt h.2.1 0 j
 | 4,j=>lfB_lt h.2.1 1 j
 | 5,j=>lfB_lt h.2.1 2 j
 | 6,j=>lfB_lt h.2.1 3 j
 | 7,j=>lfB_lt h.2.1 4 j
 | 8,j=>lfB_lt h.2.1 5 j
 | _+9,j=>vcB_lt h.2.2 j
def k0:Nat→Nat:=fun _=>0
def kpr:PrD:=⟨⟨32,k0⟩,⟨0,k0⟩,[1]⟩
theorem kpr_R:prR kpr:=⟨rfl,.inl rfl,by decide⟩
theorem kpr_len:prLen kpr=39:=by decide
theorem kpr_str:strB 6 (fun j=>prByt kpr (33+j))={ data:=#[0,4,0,0,0,1] }:=by kernel_rfl
theorem no_leaf:¬(lfR (getD13 0 k0) 3∧getE13 0 k0=0):=fun h=>by
 have h1:=(lf_all (getD13 0 k0) 3).2 h.1
 have h2:lfA (rl 0 k0 ⟨0,0⟩ 6).1 3 0=true:=by
  rw [show allU (lfA (getD13 0 k0) 3) 6=((((((true && lfA (getD13 0 k0) 3 0) && lfA (getD13 0 k0) 3 1) && lfA (getD13 0 k0) 3 2) && lfA (getD13 0 k0) 3 3) && lfA (getD13 0 k0) 3 4) && lfA (getD13 0 k0) 3 5) from rfl] at h1
  simp only [Bool.and_eq_true] at h1
  exact h1.1.1.1.1.1.2
 rw [←lfA_rl 0 k0 ⟨0,0⟩ 3 0 (by decide)] at h2
 have h3:lfA (rl 0 k0 ⟨0,0⟩ (0+1)).1 3 0=false:=by kernel_rfl
 rw [h3] at h2
 cases h2
theorem BytesIn.from_ {w:World} {v:Value} {L:Nat} {B:Nat→Nat} (hv:BytesIn w v L B) (a n:Nat) (h1:a+n=L) (hn:0<n):∃ xo cx x' c',v = .slice xo L cx∧(∀ W:World,(Instr.sliceAt 22 (.slice xo L cx) (some (.int .i64 a)) none none).run Try.prog W = .ok (.slice x' n c') W)∧BytesIn w (.slice x' n c') n (fun j=>B (a+j)):=by
 have u1:Try.prog.underlying 22=some (.slice (Try.prog.elem 22)):=by kernel_rfl
 have u2:Try.prog.elem 22=5:=by kernel_rfl
 have u3:∀ W,((sizeOf 5).run Try.prog W) = .ok 1 W:=fun W=>by kernel_rfl
 rcases hv with ⟨xo,rfl,rfl⟩ | ⟨bb,ob,cap,rfl,hb,hc,hcell⟩
 · omega
 · have e1:L - a=n:=by omega
   have hne:¬cap=a:=by omega
   refine ⟨some ⟨bb,ob,none⟩,cap,some ⟨bb,ob+a,none⟩,cap - a,rfl,fun W => ?_,.inr ⟨bb,ob+a,cap - a,rfl,hb,by omega,fun j hj => ?_⟩⟩
   · rw [run_sliceAt_slice W 22 _ _ _ _ u1,run_slice_l W 22 _ L cap u1 .i64 _ (by omega) (by omega),u2,u3]
     simp [sliced,Addr.add_mid,hne,e1]
   · rw [Nat.add_assoc]
     exact hcell (a+j) (by omega)
set_option maxRecDepth 20000 in
set_option maxHeartbeats 1000000 in
theorem knows13 (w:World):Calls Try.prog 18 #[] w fun e w'=>e = .returned (.bool true)∧Below w.heap.size w w':=by
 have b1:Below w.heap.size w (w.alloc (.cells (zb 32) 5)):=(Below.refl _ _).alloc (Nat.le_refl _) _
 have s1:(w.alloc (.cells (zb 32) 5)).heap.size=w.heap.size+1:=by simp
 have r1:BytesIn (w.alloc (.cells (zb 32) 5)) (.slice (some ⟨w.heap.size,0,none⟩) 32 32) 32 k0 := .inr ⟨_,0,32,rfl,by rw [s1];omega,Nat.le_refl _,fun j hj=>(RowAt.fresh (K := .u8) (w:=w) (t:=5) (X:=k0) (n:=32) (fun j hj=>zb_at 32 j hj) j hj).1⟩
 obtain ⟨W1,hW1⟩:∃ W1,W1=w.alloc (.cells (zb 32) 5):=⟨_,rfl⟩
 rw [←hW1] at b1 s1 r1
 have b2:Below W1.heap.size W1 (W1.alloc (.cells #[.int .i64 1] 3)):=(Below.refl _ _).alloc (Nat.le_refl _) _
 have r2:=RW.fresh W1 [.int .i64 1] 3
 obtain ⟨W,hW⟩:∃ W,W=W1.alloc (.cells #[.int .i64 1] 3):=⟨_,rfl⟩
 rw [show W1.alloc (.cells [.int .i64 1].toArray 3)=W from hW.symm] at r2
 rw [←hW] at b2
 rw [s1] at r2
 have hd:PrIn W [.slice (some ⟨w.heap.size,0,none⟩) 32 32,.slice none 0 0,.slice (some ⟨w.heap.size+1,0,none⟩) 1 1] kpr :=
  ⟨_,_,_,rfl,r1.keep b2,.inl ⟨none,rfl,rfl⟩,⟨_,1,rfl,fun i z hz=>by
    match i,hz with
    | 0,hz=>cases hz;exact ⟨_,0,rfl,r2.lt,r2.cell (o:=0) rfl⟩
    | i+1,hz=>simp [kpr] at hz⟩⟩
 have cp:=putParent_any _ kpr W hd (by decide)
 have mk:=make_bytes w 32 32 rfl (by decide)
 have cg:=fun W'=>getLeaf_any (.slice none 0 0) 0 k0 (fun _=>Nat.zero_lt_succ _) (by decide) W' (.inl ⟨none,rfl,rfl⟩)
 rw [hW,hW1] at cp
 have HW:Hid (W=(w.alloc (.cells (zb 32) 5)).alloc (.cells #[.int .i64 1] 3)):=Hid.mk' (by rw [hW,hW1])
 have bW:=below_next b1 b2
 have CG:=Hid.mk' cg
 clear hW hW1 b1 b2 s1 r1 r2 hd cg
 go_enter Try.func18,Try.ntmps18
 go_upto_region 2 with (go_at_call 20;refine cp.mono ?_;clear cp;rintro e w2 ⟨b2,hA⟩;unfold PutA at hA;rw [if_pos kpr_R] at hA;obtain ⟨s,rfl,hs⟩:=hA)
 rw [←HW.out] at b2
 rw [kpr_len] at hs
 obtain ⟨xo,cx,x',c',rfl,hsl,hbi⟩:=hs.from_ 33 6 rfl (by decide)
 have cv:=BytesIn.conv hbi (fun j=>allB_lt (prB_lt (d:=kpr) ⟨fun _=>Nat.zero_lt_succ _,fun _=>Nat.zero_lt_succ _⟩) 3 (33+j))
 rw [kpr_str] at cv
 have cg:=CG.out w2
 unfold GetA at cg
 simp only [if_neg no_leaf,zeroL] at cg
 clear hbi hs mk CG
 go_upto_region 3 with (go_at_call 13;refine cg.mono ?_;clear cg;rintro e w3 ⟨b3,rfl⟩)
 have b4:Below w3.heap.size w3 (w3.alloc (.cells #[.slice none 0 0,.slice none 0 0,.slice none 0 0,.int .i64 0,.slice none 0 0,.slice none 0 0] 26)):=(Below.refl _ _).alloc (Nat.le_refl _) _
 have cv':=cv _ (below_next b3 b4)
 have hsl':(Instr.sliceAt 22 (.slice xo 39 cx) (some (.int .i64 33)) none none).run Try.prog (w3.alloc (.cells #[.slice none 0 0,.slice none 0 0,.slice none 0 0,.int .i64 0,.slice none 0 0,.slice none 0 0] 26)) = .ok (.slice x' 6 c') _:=hsl (w3.alloc (.cells #[.slice none 0 0,.slice none 0 0,.slice none 0 0,.int .i64 0,.slice none 0 0,.slice none 0 0] 26))
 clear cv hsl
 go_wp2_with (go_at_call 15;refine (num13_any _ _).mono ?_;rintro e wn ⟨rfl,hwn⟩;subst hwn)
 go_ret
 exact ⟨rfl,below_next (below_next (below_next bW b2) b3) b4⟩
end Go.Proofs.Ytgdcmibdjiaofaa
namespace Go.Proofs.Ytgdcmibdjiaofaa
open Go.RowKit
open Classical in
noncomputable def putS (R:Prop) (n:Nat) (b:Nat→Nat):ByteArray:=if R then strB n b else strB 0 k0
open Classical in
noncomputable def putZ (R:Prop):Int:=if R then 0 else 1
open Classical in
noncomputable def getZ (R:Prop):Int:=if R then 0 else 21
open Classical in
noncomputable def getX {α:Type} (R:Prop) (d z:α):α:=if R then d else z
theorem PutA.str {R:Prop} {n:Nat} {b:Nat→Nat} {e:Ending} {w:World} (h:PutA R n b e w) (hb:∀ j,b j<256):∃ x m c,e = .returned (.tuple #[.slice x m c,.int .i64 (putZ R)])∧Cv w (.slice x m c) (putS R n b):=by
 unfold PutA at h
 unfold putZ putS
 split at h
 · rename_i hR
   obtain ⟨s,rfl,hs⟩:=h
   obtain ⟨x,c,rfl,-⟩:=hs.src
   rw [if_pos hR,if_pos hR]
   exact ⟨x,n,c,rfl,fun W hW=>hs.conv hb W hW⟩
 · rename_i hR
   rw [if_neg hR,if_neg hR]
   exact ⟨none,0,0,h,fun W _=>conv_nil W⟩
theorem GetA.same {α:Type} {R:Prop} {D:World→List Value→α→Prop} {d z:α} {zero:List Value} {e:Ending} {w:World} (h:GetA R (fun W cs=>D W cs d) zero e w) (hz:D w zero z):∃ cs,e = .returned (.tuple #[.agg cs.toArray,.int .i64 (getZ R)])∧D w cs (getX R d z):=by
 unfold GetA at h
 unfold getZ getX
 split at h
 · rename_i hR
   obtain ⟨cs,rfl,hc⟩:=h
   rw [if_pos hR,if_pos hR]
   exact ⟨cs,rfl,hc⟩
 · rename_i hR
   rw [if_neg hR,if_neg hR]
   exact ⟨zero,h,hz⟩
theorem nilB (w:World) (b:Nat→Nat):BytesIn w (.slice none 0 0) 0 b := .inl ⟨none,rfl,rfl⟩
def pr0:PrD:=⟨tx0,tx0,[]⟩
def pk0:PkD:=⟨tx0,lf0,tx0⟩
theorem zeroL_in (w:World):LfIn w zeroL lf0:=⟨_,_,_,_,_,rfl,nilB _ _,nilB _ _,nilB _ _,nilB _ _,nilB _ _⟩
theorem zeroP_in (w:World):PrIn w zeroP pr0:=⟨_,_,_,rfl,nilB _ _,nilB _ _,ZIn.nil _⟩
theorem zeroK_in (w:World):PkIn w zeroK pk0:=⟨_,zeroL,_,rfl,nilB _ _,zeroL_in w,nilB _ _⟩
theorem tx0K:∀ j,tx0.b j<256:=fun _=>Nat.zero_lt_succ _
theorem lf0K:lfK lf0:=⟨tx0K,tx0K,tx0K,tx0K,tx0K⟩
theorem rl_K {L:Nat} {B:Nat→Nat} (lB:∀ j,B j<256) (r:Rd):∀ k,lfK (rl L B r k).1
 | 0=>lf0K
 | k+1=>by
  have h:=rl_K (L:=L) lB r k
  show lfK (rlS L B (rl L B r k) k).1
  have hv:∀ j,(vx L B (rl L B r k).2).b j<256:=fun j=>lB _
  match k with
  | 0=>exact ⟨hv,h.2⟩
  | 1=>exact ⟨h.1,hv,h.2.2⟩
  | 2=>exact ⟨h.1,h.2.1,hv,h.2.2.2⟩
  | 3=>exact h
  | 4 =>
   show lfK (if (rl L B r 4).1.src=3 then _ else rl L B r 4).1
   split
   · exact ⟨h.1,h.2.1,h.2.2.1,hv,h.2.2.2.2⟩
   · exact h
  | k+5=>exact ⟨h.1,h.2.1,h.2.2.1,h.2.2.2.1,hv⟩
theorem getL_K {L:Nat} {B:Nat→Nat} (lB:∀ j,B j<256) (R:Prop):lfK (getX R (getD13 L B) lf0):=by
 unfold getX;split
 · exact rl_K lB _ 6
 · exact lf0K
theorem getP_K {L:Nat} {B:Nat→Nat} (lB:∀ j,B j<256) (R:Prop):prK (getX R (getP13 L B) pr0):=by
 unfold getX;split
 · exact ⟨fun j=>lB _,fun j=>lB _⟩
 · exact ⟨tx0K,tx0K⟩
theorem getP_l {L:Nat} {B:Nat→Nat} (R:Prop):(getX R (getP13 L B) pr0).um.length<140737488355000:=by
 unfold getX;split
 · exact rp_len L B ⟨0,0⟩ 3 (by decide)
 · show (0:Nat)<_;decide
theorem getK_K {L:Nat} {B:Nat→Nat} (lB:∀ j,B j<256) (R:Prop):pkK (getX R (getK13 L B) pk0):=by
 unfold getX;split
 · exact ⟨fun j=>lB _,rl_K lB _ 6,fun j=>lB _⟩
 · exact ⟨tx0K,lf0K,tx0K⟩
theorem sameL_refl (d:LfD):sameL d d=true:=by simp [sameL]
theorem sameP_refl (d:PrD):sameP d d:=⟨rfl,rfl,rfl⟩
theorem sameK_refl (d:PkD):sameK d d:=⟨rfl,sameL_refl _,rfl⟩
theorem PrIn.form {w:World} {cs:List Value} {d:PrD} (h:PrIn w cs d):∃ x0 c0 x1 c1 x2 c2,cs=[.slice x0 d.enc.n c0,.slice x1 d.hash.n c1,.slice x2 d.um.length c2]:=by
 obtain ⟨v0,v1,v2,rfl,h0,h1,h2⟩:=h
 obtain ⟨x0,c0,rfl,-⟩:=h0.src
 obtain ⟨x1,c1,rfl,-⟩:=h1.src
 obtain ⟨x2,c2,rfl,-⟩:=h2
 exact ⟨x0,c0,x1,c1,x2,c2,rfl⟩
theorem PkIn.form8 {w:World} {cs:List Value} {d:PkD} (h:PkIn w cs d):∃ x0 c0 x1 c1 x2 c2 x3 c3 x5 c5 x6 c6 x7 c7,cs=[.slice x0 d.init.n c0,.slice x1 d.leaf.enc.n c1,.slice x2 d.leaf.sig.n c2,.slice x3 d.leaf.name.n c3,.int .i64 d.leaf.src,.slice x5 d.leaf.hash.n c5,.slice x6 d.leaf.sg.n c6,.slice x7 d.sg.n c7]:=by
 obtain ⟨x0,c0,u0,u1,u2,u4,u5,x7,c7,rfl,-,hl,-⟩:=h.form
 obtain ⟨y0,e0,y1,e1,y2,e2,y4,e4,y5,e5,hu,-⟩:=hl.form
 cases hu
 exact ⟨x0,c0,y0,e0,y1,e1,y2,e2,y4,e4,y5,e5,x7,c7,rfl⟩
theorem row_bytes {w:World} {g n cap:Nat} {bs:Nat→Nat} (h:RowAt .u8 w g 0 (n+2) (cat n bs room)) (hc:n+2≤cap):BytesIn w (.slice (some ⟨g,0,none⟩) n cap) n bs := .inr ⟨g,0,cap,rfl,block_lt_of_cell (h 0 (by omega)).1,by omega,fun j hj=>by
 have:=(h j (by omega)).1
 rwa [cat_left hj] at this⟩
theorem RowAt.keep {K:IntKind} {w w':World} {b o n:Nat} {X:Nat→Nat} (h:RowAt K w b o n X) (hn:0<n) (hb:Below w.heap.size w w'):RowAt K w' b o n X:=h.below hb (block_lt_of_cell (h 0 hn).1)
section
variable {ops:Array Oper} {rest:List Oper} {op:Oper} {a:Act} {w:World} {Q:Exit→Act→World→Prop}
theorem ldC (x:Operand) (ho:op.op = .load 26 x) {g o:Nat} {A B C D E F:Value} (hx:a.eval x = .pointer (some ⟨g,o,none⟩)) (hc:w.rangeAt g o [A,B,C,D,E,F])
 (h:wpList Try.prog ops Q rest (a.put op.dst (.agg #[A,B,C,D,E,F])) w) (hgd:op.guard=none):wpList Try.prog ops Q (op :: rest) a w :=
 wpList_load_mid hgd 26 x ho g o hx [A,B,C,D,E,F] _ hc Try.underlying26 rfl infoL6 h
theorem ldD (x:Operand) (ho:op.op = .load 45 x) {g o:Nat} {A B C:Value} (hx:a.eval x = .pointer (some ⟨g,o,none⟩)) (hc:w.rangeAt g o [A,B,C])
 (h:wpList Try.prog ops Q rest (a.put op.dst (.agg #[A,B,C])) w) (hgd:op.guard=none):wpList Try.prog ops Q (op :: rest) a w :=
 wpList_load_mid hgd 45 x ho g o hx [A,B,C] _ hc Try.underlying45 rfl infoP3 h
theorem ldDg (x:Operand) (ho:op.op = .load 45 x) {g o:Nat} {A B C:Value} (hx:a.eval x = .pointer (some ⟨g,o,none⟩)) (hc:w.rangeAt g o [A,B,C])
 (h:wpList Try.prog ops Q rest (a.put op.dst (.agg #[A,B,C])) w) (hw:Region.wanted op (yielded ops a.tmps)=true):wpList Try.prog ops Q (op :: rest) a w :=
 wpList_load_on hw 45 x ho g o hx [A,B,C] _ hc Try.underlying45 rfl infoP3 h
theorem ldE (x:Operand) (ho:op.op = .load 58 x) {g o:Nat} {A B C D E F G H:Value} (hx:a.eval x = .pointer (some ⟨g,o,none⟩)) (hc:w.rangeAt g o [A,B,C,D,E,F,G,H])
 (h:wpList Try.prog ops Q rest (a.put op.dst (.agg #[A,B,C,D,E,F,G,H])) w) (hgd:op.guard=none):wpList Try.prog ops Q (op :: rest) a w :=
 wpList_load_mid hgd 58 x ho g o hx [A,B,C,D,E,F,G,H] _ hc Try.underlying58 rfl infoK8 h
theorem ldEg (x:Operand) (ho:op.op = .load 58 x) {g o:Nat} {A B C D E F G H:Value} (hx:a.eval x = .pointer (some ⟨g,o,none⟩)) (hc:w.rangeAt g o [A,B,C,D,E,F,G,H])
 (h:wpList Try.prog ops Q rest (a.put op.dst (.agg #[A,B,C,D,E,F,G,H])) w) (hw:Region.wanted op (yielded ops a.tmps)=true):wpList Try.prog ops Q (op :: rest) a w :=
 wpList_load_on hw 58 x ho g o hx [A,B,C,D,E,F,G,H] _ hc Try.underlying58 rfl infoK8 h
end
end Go.Proofs.Ytgdcmibdjiaofaa
namespace Go.Proofs.Ytgdcmibdjiaofaa
open Go.RowKit
set_option maxRecDepth 20000 in
set_option maxHeartbeats 2000000 in
theorem nodesLeaves_any (cs:List Value) (d:LfD) (v:Value) (n:Nat) (bs:Nat→Nat) (hk:lfK d) (hl:lfL d) (lb:∀ j,bs j<256) (hn:n<140737488355000) (w:World) (hd:LfIn w cs d) (hv:BytesIn w v n bs) :
 Calls Try.prog 3 #[.agg cs.toArray,v] w fun e w'=>e = .returned (.bool true)∧Below w.heap.size w w':=by
 have hd':=hd
 obtain ⟨ax0,ac0,ax1,ac1,ax2,ac2,ax4,ac4,ax5,ac5,rfl,-⟩:=hd.form
 clear hd
 have k0:=RW.fresh w [.slice ax0 d.enc.n ac0,.slice ax1 d.sig.n ac1,.slice ax2 d.name.n ac2,.int .i64 d.src,.slice ax4 d.hash.n ac4,.slice ax5 d.sg.n ac5] 24
 have b0:Below w.heap.size w (w.alloc (.cells #[.slice ax0 d.enc.n ac0,.slice ax1 d.sig.n ac1,.slice ax2 d.name.n ac2,.int .i64 d.src,.slice ax4 d.hash.n ac4,.slice ax5 d.sg.n ac5] 24)):=(Below.refl _ _).alloc (Nat.le_refl _) _
 obtain ⟨W0,hW0⟩:∃ W0,W0=w.alloc (.cells #[.slice ax0 d.enc.n ac0,.slice ax1 d.sig.n ac1,.slice ax2 d.name.n ac2,.int .i64 d.src,.slice ax4 d.hash.n ac4,.slice ax5 d.sg.n ac5] 24):=⟨_,rfl⟩
 rw [show w.alloc (.cells [.slice ax0 d.enc.n ac0,.slice ax1 d.sig.n ac1,.slice ax2 d.name.n ac2,.int .i64 d.src,.slice ax4 d.hash.n ac4,.slice ax5 d.sg.n ac5].toArray 24)=W0 from hW0.symm] at k0
 rw [←hW0] at b0
 have HW0:=Hid.mk' hW0
 have HD:=Hid.mk' (hd'.keep b0)
 have HV:=Hid.mk' (hv.keep b0)
 have cL:=lent_any v n bs W0 HV.out hn
 have K0:=Hid.mk' k0
 obtain ⟨S,hS⟩:∃ S,S=putS (lfR d 3) (lfLen d) (lfByt d):=⟨_,rfl⟩
 obtain ⟨zp,hzp⟩:∃ z,z=putZ (lfR d 3):=⟨_,rfl⟩
 obtain ⟨dg,hdg⟩:∃ dg,dg=getX (lfR (getD13 n bs) 3∧getE13 n bs=0) (getD13 n bs) lf0:=⟨_,rfl⟩
 obtain ⟨zg,hzg⟩:∃ z,z=getZ (lfR (getD13 n bs) 3∧getE13 n bs=0):=⟨_,rfl⟩
 have hgk:lfK dg:=by rw [hdg];exact getL_K lb _
 have cm:=fun W' hb=>mkLeaf_any _ d hl W' (HD.out.keep (w':=W') hb)
 have cp:∀ W cs,LfIn W cs d→Calls Try.prog 11 #[.agg cs.toArray] W fun e w'=>Below W.heap.size W w'∧∃ x m c,e = .returned (.tuple #[.slice x m c,.int .i64 zp])∧Cv w' (.slice x m c) S:=fun W cs hi=>(putLeaf_any _ d W hi).mono fun e w' ⟨h1,h2⟩=>⟨h1,by rw [hS,hzp];exact h2.str (fun j=>allB_lt (lfB_lt hk) 6 j)⟩
 have cq:=fun W' (hb:Below W0.heap.size W0 W')=>(rPutLeaf_any _ d hk W' ((HD.out.keep hb))).mono (R':=fun e w'=>Below W'.heap.size W' w'∧∃ x m c,e = .returned (.tuple #[.slice x m c,.int .i64 zp])∧Cv w' (.slice x m c) S) fun e w' ⟨h1,h2⟩=>⟨h1,by rw [hS,hzp];exact h2.str (fun j=>allB_lt (lfB_lt hk) 6 j)⟩
 have cg:∀ W u,BytesIn W u n bs→Calls Try.prog 13 #[u] W fun e w'=>Below W.heap.size W w'∧∃ cs,e = .returned (.tuple #[.agg cs.toArray,.int .i64 zg])∧LfIn w' cs dg:=fun W u hu=>(getLeaf_any u n bs lb hn W hu).mono fun e w' ⟨h1,h2⟩=>⟨h1,by rw [hdg,hzg];exact GetA.same (D:=LfIn) h2 (zeroL_in w')⟩
 have ch:∀ W u,BytesIn W u n bs→Calls Try.prog 14 #[u] W fun e w'=>Below W.heap.size W w'∧∃ cs,e = .returned (.tuple #[.agg cs.toArray,.int .i64 zg])∧LfIn w' cs dg:=fun W u hu=>(rGetLeaf_any u n bs lb hn W hu).mono fun e w' ⟨h1,h2⟩=>⟨h1,by rw [hdg,hzg];exact GetA.same (D:=LfIn) h2 (zeroL_in w')⟩
 have HL:=Hid.mk' hl
 have CM:=Hid.mk' cm
 have CP:=Hid.mk' cp
 have CQ:=Hid.mk' cq
 have CG:=Hid.mk' cg
 have CH:=Hid.mk' ch
 clear hW0 k0 hd' hv hS hzp hdg hzg cm cp cq cg ch
 go_enter Try.func3,Try.ntmps3
 go_upto_region 1 with (fail)
 rw [←HW0.out]
 go_upto_region 2 with (go_at_call 9;refine cL.mono ?_;clear cL;rintro e w1 ⟨g,cap,rfl,hcap,hg,row1,b1⟩)
 have rr0:=(K0.out.still b1).range
 have cm:=CM.out w1 b1
 go_upto_region 3 with (first
  | (with_reducible (refine id (?_:wpList _ _ _ _ _ _));refine ldL _ rfl rfl rr0 ?_ rfl)
  | (go_at_call 10;refine cm.mono ?_;clear cm;rintro e w2 ⟨cs2,rfl,i2,b2⟩;(have I2:=Hid.mk' i2);(obtain ⟨bx0,bc0,bx1,bc1,bx2,bc2,bx4,bc4,bx5,bc5,rfl,-⟩:=i2.form);clear i2))
 clear rr0
 have k2:=RW.fresh w2 [.slice bx0 d.enc.n bc0,.slice bx1 d.sig.n bc1,.slice bx2 d.name.n bc2,.int .i64 d.src,.slice bx4 d.hash.n bc4,.slice bx5 d.sg.n bc5] 26
 have b2':Below w2.heap.size w2 (w2.alloc (.cells #[.slice bx0 d.enc.n bc0,.slice bx1 d.sig.n bc1,.slice bx2 d.name.n bc2,.int .i64 d.src,.slice bx4 d.hash.n bc4,.slice bx5 d.sg.n bc5] 26)):=(Below.refl _ _).alloc (Nat.le_refl _) _
 obtain ⟨W2,hW2⟩:∃ W2,W2=w2.alloc (.cells #[.slice bx0 d.enc.n bc0,.slice bx1 d.sig.n bc1,.slice bx2 d.name.n bc2,.int .i64 d.src,.slice bx4 d.hash.n bc4,.slice bx5 d.sg.n bc5] 26):=⟨_,rfl⟩
 rw [show w2.alloc (.cells [.slice bx0 d.enc.n bc0,.slice bx1 d.sig.n bc1,.slice bx2 d.name.n bc2,.int .i64 d.src,.slice bx4 d.hash.n bc4,.slice bx5 d.sg.n bc5].toArray 26)=W2 from hW2.symm] at k2
 rw [←hW2] at b2' ⊢
 clear hW2
 obtain ⟨p2,hp2⟩:∃ p,p=w2.heap.size:=⟨_,rfl⟩
 rw [←hp2] at k2 ⊢
 clear hp2
 have I2':=Hid.mk' (I2.out.keep b2')
 have bb2:=below_next b1 (below_next b2 b2')
 have cp:=CP.out W2 _ I2'.out
 have rr2:=k2.range
 go_upto_region 4 with (first
  | (with_reducible (refine id (?_:wpList _ _ _ _ _ _));refine ldC _ rfl rfl rr2 ?_ rfl)
  | (go_at_call 11;refine cp.mono ?_;clear cp;rintro e w3 ⟨b3,xa,ma,ca,rfl,va⟩))
 clear rr2
 have bb3:=below_next bb2 b3
 have rr0:=(K0.out.still bb3).range
 have cq:=CQ.out w3 bb3
 go_upto_region 5 with (first
  | (with_reducible (refine id (?_:wpList _ _ _ _ _ _));refine ldL _ rfl rfl rr0 ?_ rfl)
  | (go_at_call 12;refine cq.mono ?_;clear cq;rintro e w4 ⟨b4,xc,mc,cc,rfl,vc⟩))
 clear rr0
 have b24:=below_next (below_next (below_next b2 b2') b3) b4
 have row4:=row1.keep (by omega) b24
 have cg:=CG.out w4 _ (row_bytes row4 hcap)
 go_upto_region 6 with (go_at_call 13;refine cg.mono ?_;clear cg;rintro e w5 ⟨b5,cs5,rfl,i5⟩;(have I5:=Hid.mk' i5);(obtain ⟨px0,pc0,px1,pc1,px2,pc2,px4,pc4,px5,pc5,rfl,-⟩:=i5.form);clear i5)
 have k5:=RW.fresh w5 [.slice px0 dg.enc.n pc0,.slice px1 dg.sig.n pc1,.slice px2 dg.name.n pc2,.int .i64 dg.src,.slice px4 dg.hash.n pc4,.slice px5 dg.sg.n pc5] 26
 have b5':Below w5.heap.size w5 (w5.alloc (.cells #[.slice px0 dg.enc.n pc0,.slice px1 dg.sig.n pc1,.slice px2 dg.name.n pc2,.int .i64 dg.src,.slice px4 dg.hash.n pc4,.slice px5 dg.sg.n pc5] 26)):=(Below.refl _ _).alloc (Nat.le_refl _) _
 obtain ⟨W5,hW5⟩:∃ W5,W5=w5.alloc (.cells #[.slice px0 dg.enc.n pc0,.slice px1 dg.sig.n pc1,.slice px2 dg.name.n pc2,.int .i64 dg.src,.slice px4 dg.hash.n pc4,.slice px5 dg.sg.n pc5] 26):=⟨_,rfl⟩
 rw [show w5.alloc (.cells [.slice px0 dg.enc.n pc0,.slice px1 dg.sig.n pc1,.slice px2 dg.name.n pc2,.int .i64 dg.src,.slice px4 dg.hash.n pc4,.slice px5 dg.sg.n pc5].toArray 26)=W5 from hW5.symm] at k5
 rw [←hW5] at b5' ⊢
 clear hW5
 obtain ⟨p5,hp5⟩:∃ p,p=w5.heap.size:=⟨_,rfl⟩
 rw [←hp5] at k5 ⊢
 clear hp5
 have b45:=below_next b5 b5'
 have b05:=below_next b1 (below_next b24 b45)
 have ch:=CH.out W5 v (HV.out.keep b05)
 go_upto_region 7 with (go_at_call 14;refine ch.mono ?_;clear ch;rintro e w6 ⟨b6,cs6,rfl,i6⟩;(have I6:=Hid.mk' i6);(obtain ⟨qx0,qc0,qx1,qc1,qx2,qc2,qx4,qc4,qx5,qc5,rfl,-⟩:=i6.form);clear i6)
 have k6:=RW.fresh w6 [.slice qx0 dg.enc.n qc0,.slice qx1 dg.sig.n qc1,.slice qx2 dg.name.n qc2,.int .i64 dg.src,.slice qx4 dg.hash.n qc4,.slice qx5 dg.sg.n qc5] 24
 have b6':Below w6.heap.size w6 (w6.alloc (.cells #[.slice qx0 dg.enc.n qc0,.slice qx1 dg.sig.n qc1,.slice qx2 dg.name.n qc2,.int .i64 dg.src,.slice qx4 dg.hash.n qc4,.slice qx5 dg.sg.n qc5] 24)):=(Below.refl _ _).alloc (Nat.le_refl _) _
 obtain ⟨W6,hW6⟩:∃ W6,W6=w6.alloc (.cells #[.slice qx0 dg.enc.n qc0,.slice qx1 dg.sig.n qc1,.slice qx2 dg.name.n qc2,.int .i64 dg.src,.slice qx4 dg.hash.n qc4,.slice qx5 dg.sg.n qc5] 24):=⟨_,rfl⟩
 rw [show w6.alloc (.cells [.slice qx0 dg.enc.n qc0,.slice qx1 dg.sig.n qc1,.slice qx2 dg.name.n qc2,.int .i64 dg.src,.slice qx4 dg.hash.n qc4,.slice qx5 dg.sg.n qc5].toArray 24)=W6 from hW6.symm] at k6
 rw [←hW6] at b6' ⊢
 clear hW6
 obtain ⟨p6,hp6⟩:∃ p,p=w6.heap.size:=⟨_,rfl⟩
 rw [←hp6] at k6 ⊢
 clear hp6
 have b56:=below_next b6 b6'
 have b46:=below_next b45 b56
 have b06:=below_next b05 b56
 have ya:=va W6 (below_next b4 b46)
 have yc:=vc W6 b46
 have cs1:=sameLeaf_any _ _ dg dg hgk hgk W6 ((I5.out.keep b5').keep b56) (I6.out.keep b6')
 rw [sameL_refl] at cs1
 have rA:=(k5.still b56).range
 have rB:=k6.range
 have K2:=Hid.mk' (k2.still (below_next (below_next b3 b4) b46))
 have K0':=Hid.mk' (K0.out.still b06)
 have I2'':=Hid.mk' (I2'.out.keep (below_next (below_next b3 b4) b46))
 have D6:=Hid.mk' ((HD.out.keep b06))
 have row6:=row4.keep (by omega) b46
 have V6:=Hid.mk' (HV.out.keep b06)
 have R6:=Hid.mk' row6
 have cs2:=fun W' (hb:Below W6.heap.size W6 W')=>sameLeaf_any _ _ d d hk hk W' (I2''.out.keep hb) (D6.out.keep hb)
 simp only [sameL_refl] at cs2
 have CS2:=Hid.mk' cs2
 clear cs2 k2 k5 k6 row1 row4 row6 va vc b1 b2 b2' b3 b4 b5 b5' b6 b6' b24 b45 b56 b46 b05 bb2 bb3 I2 I2' I5 I6 CM CP CQ CG CH HD HV HW0 K0
 go_wp2_with (first
  | (go_at_call 15;refine (num13_any _ _).mono ?_;rintro e wn ⟨rfl,hwn⟩;subst hwn)
  | (with_reducible (refine id (?_:wpList _ _ _ _ _ _));refine ldCg _ rfl rfl rA ?_ rfl)
  | (with_reducible (refine id (?_:wpList _ _ _ _ _ _));refine ldLg _ rfl rfl rB ?_ rfl)
  | (go_at_call 16;refine cs1.mono ?_;clear cs1;rintro e w7 ⟨rfl,b7⟩;(have rC:=(K2.out.still b7).range);(have rD:=(K0'.out.still b7).range);(have cs2:=CS2.out w7 b7);clear rA rB)
  | (with_reducible (refine id (?_:wpList _ _ _ _ _ _));refine ldCg _ rfl rfl rC ?_ rfl)
  | (with_reducible (refine id (?_:wpList _ _ _ _ _ _));refine ldLg _ rfl rfl rD ?_ rfl)
  | (go_at_call 16;refine cs2.mono ?_;clear cs2;rintro e w8 ⟨rfl,b8⟩;(have b78:=below_next b7 b8);(have ct:=stays_any g cap n v bs lb w8 hn hcap (R6.out.keep (by omega) b78) (V6.out.keep b78)))
  | (go_at_call 17;refine ct.mono ?_;clear ct;rintro e w9 ⟨rfl,b9⟩)
  | (go_at_call 18;refine (knows13 _).mono ?_;rintro e w10 ⟨rfl,b10⟩))
 go_ret
 exact ⟨rfl,below_next (below_next (below_next (below_next b0 b06) b78) b9) b10⟩
end Go.Proofs.Ytgdcmibdjiaofaa
namespace Go.Proofs.Ytgdcmibdjiaofaa
open Go.ChangeShapes Go.WideShapes Go.ChangeAt Go.RowKit
theorem ownKnobs:ownKnob Try.prog.godebug=none:=by kernel_rfl
theorem laidOut:laidOutB Try.prog=true:=by kernel_rfl
theorem cellsOfByte:Try.prog.cellsOf 5=1:=by kernel_rfl
theorem bytesOfByte:Try.prog.bytesOf 5=1:=by kernel_rfl
set_option maxRecDepth 20000 in
theorem open_bytes {H:Type} {enc:TypeId × Value→H} {W:World} {base:Nat} {v:Value} {d:DataW H} {ps:List MemPlace} (hval:Value.okWide Try.prog W .any base 22 v) (h:DataW.Trod enc Try.prog W 0 (fun _=>true) true 22 v d ps) :
 ∃ n bs,BytesIn W v n bs∧(∀ j,bs j<256)∧(n=0∨∃ elems spare,d = .slice elems spare∧elems.length=n):=by
 obtain ⟨a0,len,cap,rfl⟩:=okWide_slice Try.underlying22 hval
 obtain ⟨fuel,hf⟩:=h
 have hc:Cell.ok Try.prog W .any base 22 (.slice a0 len cap):=by
  unfold Value.okWide Cell.okWide at hval
  simp only [Try.underlying22] at hval
  exact hval
 rcases open_ints Try.underlying22 Try.underlying5 cellsOfByte hf with ⟨hcs,hx⟩ | ⟨a,len',cap',zs,hcs,_,hl,hm,hz,hx,hcell,hwz⟩
 · simp [Value.cells] at hcs
   obtain ⟨rfl,rfl,rfl⟩:=hcs
   exact ⟨0,fun _=>0,.inl ⟨none,rfl,rfl⟩,fun _=>Nat.zero_lt_succ _,.inl rfl⟩
 · simp [Value.cells] at hcs
   obtain ⟨rfl,rfl,rfl⟩:=hcs
   simp only [Prod.mk.injEq] at hx
   obtain ⟨rfl,rfl⟩:=hx
   simp only [if_true] at hz
   unfold Cell.ok at hc
   simp only [Try.underlying22] at hc
   obtain ⟨_,_,_,hs,row,cells,hsh,_⟩:=hc
   obtain ⟨b,off,spot⟩:=a
   subst hs
   have hbl:b<W.heap.size:=by
    rcases Nat.lt_or_ge b W.heap.size with h | h
    · exact h
    · unfold World.shape? at hsh
      rw [Array.getElem?_eq_none h] at hsh
      cases hsh
   have hn:∀ j,0≤zs.getD j 0∧zs.getD j 0<256:=fun j=>by
    rw [List.getD_eq_getElem?_getD]
    cases h:zs[j]? with
    | none=>simp
    | some x =>
     have:=hwz x (List.mem_of_getElem? h)
     have h0:(0:Int)≤x∧x≤255:=by simpa [Lit.wf,IntKind.min,IntKind.max,IntKind.signed,IntKind.bits] using this
     show 0≤x∧x<256
     omega
   refine ⟨len,fun j=>(zs.getD j 0).toNat,.inr ⟨b,off,cap,rfl,hbl,hl,fun j hj => ?_⟩,fun j => ?_,.inr ⟨_,_,rfl,?_⟩⟩
   · have h:=hcell j (by omega)
     rw [Addr.add_mid] at h
     rw [h,Int.toNat_of_nonneg (hn j).1]
   · have:=hn j
     show (zs.getD j 0).toNat<256
     omega
   · simp [lits];omega
theorem bytes_reach {H:Type} {ts:List TypeId} {ds:List (DataW H)} (hR:(DataW.weightsEach Try.prog ts ds).all (·≤reachBytes)=true) {j n:Nat} {d:DataW H} (ht:ts[j]? = some 22) (hd:ds[j]? = some d) (h:n=0∨∃ elems spare,d = .slice elems spare∧elems.length=n):n<140737488355000:=by
 rcases h with h | ⟨elems,spare,rfl,rfl⟩
 · omega
 · have:=sized_slice hR ht hd Try.underlying22
   rw [bytesOfByte] at this
   unfold reachBytes at this
   omega
end Go.Proofs.Ytgdcmibdjiaofaa
