/- Package ratchet: the part of a place that a leaf is below. -/
import Derived.Test.YtbbikhlbkpjpjaaGreatDoorI2CaM
import Derived.Test.YtbbikhlbkpjpjaaGreatDoorT4RM
import Derived.Test.YtbbikhlbkpjpjaaGreatDoorZE
import Derived.Sort.CutIn
namespace Go.Proofs.YtbbikhlbkpjpjaaGreatDoor
open Go.RowKit Go.Shelf
attribute [local go_sem] Oper.semAt_some
theorem sd_zero (w:World):RW (w.alloc (.cells #[.int .u8 0,.int .u8 0,.int .u8 0,.int .u8 0,.int .u8 0,.int .u8 0,.int .u8 0,.int .u8 0,.int .u8 0,.int .u8 0,.int .u8 0,.int .u8 0,.int .u8 0,.int .u8 0,.int .u8 0,.int .u8 0,.int .u8 0,.int .u8 0,.int .u8 0,.int .u8 0,.int .u8 0,.int .u8 0,.int .u8 0,.int .u8 0,.int .u8 0,.int .u8 0,.int .u8 0,.int .u8 0,.int .u8 0,.int .u8 0,.int .u8 0,.int .u8 0] 60)) w.heap.size 0 (ints .u8 32 lZ):=RW.fresh w (ints .u8 32 lZ) 60
structure TwJ (w:World) (i:Nat) (x:Int) (X:Nat→Nat) (a:Int) (Y:Nat→Nat) (b:Bool) (W:World):Prop where
 lf:W.cell? ⟨w.heap.size,0,none⟩=some (.int .i64 (i:Int))
 r6:RW W (w.heap.size+2) 0 [.int .i64 a]
 r7:RW W (w.heap.size+3) 0 (ints .u8 32 Y)
 r8:RW W (w.heap.size+4) 0 [.bool b]
 hh:HasH (w.heap.size+5) (w.heap.size+6) x X W
 bel:Below w.heap.size w W
theorem TwJ.loc {w:World} {i:Nat} {x:Int} {X:Nat→Nat} {a:Int} {Y:Nat→Nat} {b:Bool} {W W':World} {B:Nat} {M:Nat→Prop} (h:TwJ w i x X a Y b W) (hT:TabAt w) (hD:DbT w) (hL:Loc B M W W') (hB:w.heap.size+7≤B):TwJ w i x X a Y b W':=by
 have hb:Below (w.heap.size+7) W W':=⟨hL.os,hL.tape,hL.output,hL.size,fun k hk=>by
  by_cases e:k<W.heap.size
  · exact hL.block k e (.inl (by omega))
  · have:=block_lt_of_cell (h.hh.sd 0 _ (ints_at .u8 32 X 0 (by decide)))
    have:w.heap.size+6<W.heap.size:=this
    omega⟩
 exact ⟨(hb.cell (p:=⟨w.heap.size,0,none⟩) (by show w.heap.size<_;omega)).trans h.lf,h.r6.below hb (by omega),h.r7.below hb (by omega),h.r8.below hb (by omega),⟨(hb.cell (p:=⟨w.heap.size+5,0,none⟩) (by show w.heap.size+5<_;omega)).trans h.hh.bx,fun j v hv=>(hb.cell (p:=⟨w.heap.size+6,0+j,none⟩) (by show w.heap.size+6<_;omega)).trans (h.hh.sd j v hv),hT.still (h.bel.trans (hb.mono (by omega))),hD.keep (h.bel.trans (hb.mono (by omega)))⟩,h.bel.trans (hb.mono (by omega))⟩
def twP (i:Nat) (x:Nat):Int:=if innB (x:Int)=true then (if belB (lftN x:Int) (i:Int)=true then (lftN x:Int) else if belB (rgtN x:Int) (i:Int)=true then (rgtN x:Int) else 0) else 0
def twB (i:Nat) (x:Nat):Bool:=innB (x:Int) && (belB (lftN x:Int) (i:Int) || belB (rgtN x:Int) (i:Int))
def twS (i:Nat) (x:Nat) (X:Nat→Nat):Nat→Nat:=if innB (x:Int)=true then (if belB (lftN x:Int) (i:Int)=true then halfS X lLef else if belB (rgtN x:Int) (i:Int)=true then halfS X lRig else lZ) else lZ
section
variable {P:Program} {md:Region.Mode} {ops:Array Oper} {Q:Exit→Act→World→Prop} {S:World→Prop} {fuel:Nat} {listed:Array Bool} {a:Act} {w:World}
theorem zSkip (i:Nat) {rs:List Nat} {oi:Oper} (w':World) (hk:S w') (h:wpAnyH P md ops Q S fuel (listed.setIfInBounds i true) (a.put oi.dst undef) w') (hs:AllReadyH P md ops Q S fuel listed a w rs)
 (hi:ops.toList[i]? = some oi:=by rfl) (hrun:(execOp a.eval oi).run P w = .ok .skip w':=by go_simp;try with_reducible rfl) (hw:Region.wanted oi (yielded ops a.tmps)=true:=by rfl):AllReadyH P md ops Q S fuel listed a w (i :: rs):=by
 refine AllReadyH.cons (at_list hi) (fun K hK => ?_) hs
 rw [if_pos hw]
 unfold Oper.wp
 rw [hrun]
 exact hK.out _ _ hk (fun _=>h)
theorem zS (i:Nat) {rs:List Nat} {oi:Oper} (ty x y:Nat) {g off:Nat} {cs:List Value} (ds:List Value) (r:RW w g off cs) (hl:ds.length=cs.length) (hin:(P.info? ty).map (·.size)=some ds.toArray.size) (h1:ds.toArray.all (·.oneCell')=true) (hk:S (w.setCells g off ds)) (h:RW (w.setCells g off ds) g off ds→wpAnyH P md ops Q S fuel (listed.setIfInBounds i true) (a.put oi.dst undef) (w.setCells g off ds)) (hs:AllReadyH P md ops Q S fuel listed a w rs)
 (hi:ops.toList[i]? = some oi:=by rfl) (ho:oi.op = .store ty (.tmp x) (.tmp y):=by rfl) (hx:a.eval (.tmp x) = .pointer (some ⟨g,off,none⟩):=by rfl) (hy:a.eval (.tmp y) = .agg ds.toArray:=by rfl) (hw:Region.wanted oi (yielded ops a.tmps)=true:=by rfl):AllReadyH P md ops Q S fuel listed a w (i :: rs):=by
 refine AllReadyH.cons (at_list hi) (fun K hK => ?_) hs
 rw [if_pos hw]
 exact wp_store_mid ty _ _ ho g off ds.toArray hx hy (by rw [List.size_toArray,hl];exact r.there) hin h1 (hK.out _ _ hk (fun _=>h (r.stored ds hl)))
end
theorem RW.but7 {bad:Nat→Prop} {w w':World} {g o:Nat} {cs:List Value} (h:RW w g o cs) (hb:But bad w w') (hg:¬bad g):RW w' g o cs:=by
 have e:=hb.block g h.lt hg
 refine ⟨fun j v hv=>(World.cell?_of_block (w:=w) e).trans (h.range j v hv),fun j hj => ?_,Nat.lt_of_lt_of_le h.lt hb.size⟩
 rw [World.cell?_of_block (w:=w) e,World.frozen?_of_block (w:=w) e]
 exact h.there j hj
theorem but_cells (w:World) (g o:Nat) (cs:List Value):But (fun b=>b=g) w (w.setCells g o cs):=by
 have h:=setCells_same g cs o w
 exact ⟨h.1,h.2.1,h.2.2.1,by rw [h.2.2.2];exact Nat.le_refl _,fun k _ hb=>heap_setCells_other g cs o w k hb⟩
theorem results_tw {fn:Func} {p q s:Tmp} (h:fn.results=#[.cell p 3,.cell q 60,.cell s 4]) (tmps:Array Value) (w:World) (a b c:Nat) (x:Int) (Y:Nat→Nat) (v:Bool)
 (hp:tmps.getD p undef = .pointer (some ⟨a,0,none⟩)) (hq:tmps.getD q undef = .pointer (some ⟨b,0,none⟩)) (hs:tmps.getD s undef = .pointer (some ⟨c,0,none⟩)) (h1:w.cell? ⟨a,0,none⟩=some (.int .i64 x)) (h2:w.rangeAt b 0 (ints .u8 32 Y)) (h3:w.cell? ⟨c,0,none⟩=some (.bool v)) :
 (results fn tmps).run Tryz.prog w = .ok (.tuple #[.int .i64 x,.agg (ints .u8 32 Y).toArray,.bool v]) w:=by
 have hp':tmps[p]?.getD undef = .pointer (some ⟨a,0,none⟩):=by simpa using hp
 have hq':tmps[q]?.getD undef = .pointer (some ⟨b,0,none⟩):=by simpa using hq
 have hs':tmps[s]?.getD undef = .pointer (some ⟨c,0,none⟩):=by simpa using hs
 have e1:(loadVar 3 ⟨a,0,none⟩).run Tryz.prog w = .ok (.int .i64 x) w:=by go_simp
 have e2:(loadVar 60 ⟨b,0,none⟩).run Tryz.prog w = .ok (.agg (ints .u8 32 Y).toArray) w:=run_loadVar_mid w b 0 60 (ints .u8 32 Y) _ h2 Tryz.underlying60 rfl (infoSd Y)
 have e3:(loadVar 4 ⟨c,0,none⟩).run Tryz.prog w = .ok (.bool v) w:=by go_simp
 simp only [results,h]
 simp [hp',hq',hs',asAddr,e1,e2,e3]
set_option maxRecDepth 100000 in
set_option maxHeartbeats 4000000 in
theorem toward_any (i x:Nat) (X:Nat→Nat) (hX:∀ j,X j<256) (hx:innB (x:Int)=true) (w:World) (hT:TabAt w) (hD:DbT w) :
 Calls Tryz.prog 61 #[.int .i64 (i:Int),.int .i64 (x:Int),sdV X] w fun e w'=>e = .returned (.tuple #[.int .i64 (twP i x),sdV (twS i x X),.bool (twB i x)])∧Below w.heap.size w w':=by
 obtain ⟨U,hU⟩:∃ U,U=((((w.alloc (.cells #[.int .i64 (i:Int)] 3)).alloc (.cells (ints .u8 32 X).toArray 60)).alloc (.cells #[.int .i64 0] 3)).alloc (.cells #[.int .u8 0,.int .u8 0,.int .u8 0,.int .u8 0,.int .u8 0,.int .u8 0,.int .u8 0,.int .u8 0,.int .u8 0,.int .u8 0,.int .u8 0,.int .u8 0,.int .u8 0,.int .u8 0,.int .u8 0,.int .u8 0,.int .u8 0,.int .u8 0,.int .u8 0,.int .u8 0,.int .u8 0,.int .u8 0,.int .u8 0,.int .u8 0,.int .u8 0,.int .u8 0,.int .u8 0,.int .u8 0,.int .u8 0,.int .u8 0,.int .u8 0,.int .u8 0] 60)).alloc (.cells #[.bool false] 4):=⟨_,rfl⟩
 have su:U.heap.size=w.heap.size+5:=by rw [hU];simp
 have bu:Below w.heap.size w U:=by
  rw [hU]
  exact (((((Below.refl _ _).alloc (Nat.le_refl _) _).alloc (by simp) _).alloc (by simp;omega) _).alloc (by simp;omega) _).alloc (by simp;omega) _
 have cs:U.rangeAt (w.heap.size+1) 0 (ints .u8 32 X):=by
  have h:=RW.fresh (w.alloc (.cells #[.int .i64 (i:Int)] 3)) (ints .u8 32 X) 60
  rw [World.size_alloc] at h
  rw [hU]
  exact (((h.still ((Below.refl _ _).alloc (Nat.le_refl _) _)).still ((Below.refl _ _).alloc (Nat.le_refl _) _)).still ((Below.refl _ _).alloc (Nat.le_refl _) _)).range
 have c0:U.cell? ⟨w.heap.size,0,none⟩=some (.int .i64 (i:Int)):=by
  have h:=RW.fresh w [.int .i64 (i:Int)] 3
  rw [hU]
  exact ((((h.still ((Below.refl _ _).alloc (Nat.le_refl _) _)).still ((Below.refl _ _).alloc (Nat.le_refl _) _)).still ((Below.refl _ _).alloc (Nat.le_refl _) _)).still ((Below.refl _ _).alloc (Nat.le_refl _) _)).range 0 _ rfl
 have r6:RW U (w.heap.size+2) 0 [.int .i64 0]:=by
  have h:=RW.fresh ((w.alloc (.cells #[.int .i64 (i:Int)] 3)).alloc (.cells (ints .u8 32 X).toArray 60)) [.int .i64 0] 3
  rw [World.size_alloc,World.size_alloc] at h
  rw [hU]
  exact (h.still ((Below.refl _ _).alloc (Nat.le_refl _) _)).still ((Below.refl _ _).alloc (Nat.le_refl _) _)
 have r7:RW U (w.heap.size+3) 0 (ints .u8 32 lZ):=by
  have h:=sd_zero (((w.alloc (.cells #[.int .i64 (i:Int)] 3)).alloc (.cells (ints .u8 32 X).toArray 60)).alloc (.cells #[.int .i64 0] 3))
  rw [World.size_alloc,World.size_alloc,World.size_alloc] at h
  rw [hU]
  exact h.still ((Below.refl _ _).alloc (Nat.le_refl _) _)
 have r8:RW U (w.heap.size+4) 0 [.bool false]:=by
  have h:=RW.fresh ((((w.alloc (.cells #[.int .i64 (i:Int)] 3)).alloc (.cells (ints .u8 32 X).toArray 60)).alloc (.cells #[.int .i64 0] 3)).alloc (.cells #[.int .u8 0,.int .u8 0,.int .u8 0,.int .u8 0,.int .u8 0,.int .u8 0,.int .u8 0,.int .u8 0,.int .u8 0,.int .u8 0,.int .u8 0,.int .u8 0,.int .u8 0,.int .u8 0,.int .u8 0,.int .u8 0,.int .u8 0,.int .u8 0,.int .u8 0,.int .u8 0,.int .u8 0,.int .u8 0,.int .u8 0,.int .u8 0,.int .u8 0,.int .u8 0,.int .u8 0,.int .u8 0,.int .u8 0,.int .u8 0,.int .u8 0,.int .u8 0] 60)) [.bool false] 4
  rw [World.size_alloc,World.size_alloc,World.size_alloc,World.size_alloc] at h
  rw [hU]
  exact h
 have hiX:=infoSd X
 have cH:=halves_any (x:Int) X U
 obtain ⟨V,hV⟩:∃ V,V=(U.alloc (.cells #[.int .i64 (x:Int)] 3)).alloc (.cells (ints .u8 32 X).toArray 60):=⟨_,rfl⟩
 rw [←hV,su] at cH
 have bv:Below U.heap.size U V:=by rw [hV];exact ((Below.refl _ _).alloc (Nat.le_refl _) _).alloc (by simp) _
 have sv:V.heap.size=w.heap.size+7:=by rw [hV];simp;omega
 have hJ0:TwJ w i (x:Int) X 0 lZ false V:=by
  refine ⟨(bv.cell (p:=⟨w.heap.size,0,none⟩) (by show w.heap.size<_;omega)).trans c0,r6.still bv,r7.still bv,r8.still bv,⟨?_,?_,hT.still (below_next bu bv),hD.keep (below_next bu bv)⟩,below_next bu bv⟩
  · have h:=(RW.fresh U [.int .i64 (x:Int)] 3).still ((Below.refl _ _).alloc (Nat.le_refl _) (.cells (ints .u8 32 X).toArray 60))
    rw [su] at h
    rw [hV]
    exact h.range 0 _ rfl
  · have h:=RW.fresh (U.alloc (.cells #[.int .i64 (x:Int)] 3)) (ints .u8 32 X) 60
    rw [World.size_alloc,su] at h
    rw [hV]
    exact h.range
 have hit:=halves_it (w.heap.size+5) (w.heap.size+6) x X hX hx
 have HU:=Hid.mk' hU
 clear hU hV r6 r7 r8 bv
 have hUs:=su
 unfold sdV at cH ⊢
 obtain ⟨nn,-⟩:∃ nn:Nat,True:=⟨1,trivial⟩
 refine (callsIn_wide (n:=nn)).1 ?_
 refine callsIn_of_wp_marks Tryz.func61 rfl trivial ?_ rfl
 simp only [Tryz.ntmps61,List.size_toArray,List.length_cons,List.length_nil,Nat.reduceAdd,Nat.reduceSub,Array.replicate_succ,Array.replicate_zero,List.push_toArray,List.append_toArray,List.nil_append,List.cons_append]
 gi_wp2_with (first
  | (rw [←HU.out];clear HU)
  | (refine wpListIn_load_mid rfl 60 _ rfl (w.heap.size+1) 0 rfl (ints .u8 32 X) _ cs Tryz.underlying60 rfl hiX ?_)
  | (refine ⟨trivial,(fun h=>by cases h),?_⟩;gi_at_call 52;refine (callsIn_wide.2 cH).mono ?_;clear cH;rintro e w1 ⟨rfl,rfl⟩))
 have hB7:w.heap.size+7≤w1.heap.size:=by omega
 refine range_it hit rfl (enters_of Tryz.func63 (by kernel_rfl) rfl)
  (fun k M' V'=>TwJ w i (x:Int) X 0 lZ false V'∧(0<k→belB (lftN x:Int) (i:Int)=false)∧(1<k→belB (rgtN x:Int) (i:Int)=false)∧∀ b,¬M' b)
  (fun c M' V'=>c = .ret∧TwJ w i (x:Int) X (twP i x) (twS i x X) (twB i x) V') (fun _=>False) ?_ ?_ ?_ ?_ ?_ (fun b hb=>hb.elim) ?_ ?_ ?_ ?_
 · rintro k M V V' ⟨h1,h2,h3,h4⟩ hL
   exact ⟨h1.loc hT hD hL hB7,h2,h3,h4⟩
 · rintro c M V V' ⟨h1,h2⟩ hL
   exact ⟨h1,h2.loc hT hD hL hB7⟩
 · rintro k M V hk ⟨h1,-⟩
   exact h1.hh
 · intro k M V _ h;cases h
 · intro k a' h;cases h;unfold halfAr;split <;> rfl
 · intro V hb
   exact ⟨hJ0.loc (M:=fun _=>False) hT hD (Loc.of_below hb) hB7,fun h=>absurd h (Nat.lt_irrefl _),fun h=>absurd h (by decide),fun _ h=>h⟩
 · intro k M V l a' hk ha hj hl1 hl2 hl3
   cases ha
   obtain ⟨pk,Yk,ea,hbt,hbf⟩:∃ (pk:Nat) (Yk:Nat→Nat),halfAr x X k=#[.int .i64 (pk:Int),.agg (ints .u8 32 Yk).toArray]∧(belB (pk:Int) (i:Int)=true→twP i x=(pk:Int)∧twS i x X=Yk∧twB i x=true)∧(belB (pk:Int) (i:Int)=false→(0<k+1→belB (lftN x:Int) (i:Int)=false)∧(1<k+1→belB (rgtN x:Int) (i:Int)=false)):=by
    match k,hk,hj with
    | 0,_,hj=>exact ⟨lftN x,halfS X lLef,rfl,fun h=>by unfold twP twS twB;rw [if_pos hx,if_pos hx,if_pos h,if_pos h,hx,h];exact ⟨rfl,rfl,rfl⟩,fun h=>⟨fun _=>h,fun h2=>absurd h2 (by decide)⟩⟩
    | 1,_,hj=>exact ⟨rgtN x,halfS X lRig,rfl,fun h=>by
     have h0:=hj.2.1 (by decide)
     have hn:¬belB (lftN x:Int) (i:Int)=true:=by rw [h0];exact Bool.false_ne_true
     unfold twP twS twB
     rw [if_pos hx,if_pos hx,if_neg hn,if_neg hn,if_pos h,if_pos h,hx,h0,h];exact ⟨rfl,rfl,rfl⟩,fun h=>⟨fun _=>hj.2.1 (by decide),fun _=>h⟩⟩
   rw [ea]
   have hiY:=infoSdA Yk
   have hoY:=oneU7 32 Yk
   have hzY:=sd_zero V
   have hsY:(ints .u8 32 Yk).toArray.size=32:=ints_size _ _ _
   have hth:(V.alloc (.cells #[.int .u8 0,.int .u8 0,.int .u8 0,.int .u8 0,.int .u8 0,.int .u8 0,.int .u8 0,.int .u8 0,.int .u8 0,.int .u8 0,.int .u8 0,.int .u8 0,.int .u8 0,.int .u8 0,.int .u8 0,.int .u8 0,.int .u8 0,.int .u8 0,.int .u8 0,.int .u8 0,.int .u8 0,.int .u8 0,.int .u8 0,.int .u8 0,.int .u8 0,.int .u8 0,.int .u8 0,.int .u8 0,.int .u8 0,.int .u8 0,.int .u8 0,.int .u8 0] 60)).there V.heap.size 0 (ints .u8 32 Yk).toArray.size:=by have h:=hzY.there;rw [ints_len] at h;rw [hsY];exact h
   have rY:=hzY.stored (ints .u8 32 Yk) (by rw [ints_len,ints_len])
   have bY:Below V.heap.size V ((V.alloc (.cells #[.int .u8 0,.int .u8 0,.int .u8 0,.int .u8 0,.int .u8 0,.int .u8 0,.int .u8 0,.int .u8 0,.int .u8 0,.int .u8 0,.int .u8 0,.int .u8 0,.int .u8 0,.int .u8 0,.int .u8 0,.int .u8 0,.int .u8 0,.int .u8 0,.int .u8 0,.int .u8 0,.int .u8 0,.int .u8 0,.int .u8 0,.int .u8 0,.int .u8 0,.int .u8 0,.int .u8 0,.int .u8 0,.int .u8 0,.int .u8 0,.int .u8 0,.int .u8 0] 60)).setCells V.heap.size 0 (ints .u8 32 Yk)):=below_setCells (Nat.le_refl _) _ _ _ ((Below.refl _ _).alloc (Nat.le_refl _) _)
   obtain ⟨V1,hV1⟩:∃ W,W=(V.alloc (.cells #[.int .u8 0,.int .u8 0,.int .u8 0,.int .u8 0,.int .u8 0,.int .u8 0,.int .u8 0,.int .u8 0,.int .u8 0,.int .u8 0,.int .u8 0,.int .u8 0,.int .u8 0,.int .u8 0,.int .u8 0,.int .u8 0,.int .u8 0,.int .u8 0,.int .u8 0,.int .u8 0,.int .u8 0,.int .u8 0,.int .u8 0,.int .u8 0,.int .u8 0,.int .u8 0,.int .u8 0,.int .u8 0,.int .u8 0,.int .u8 0,.int .u8 0,.int .u8 0] 60)).setCells V.heap.size 0 (ints .u8 32 Yk):=⟨_,rfl⟩
   rw [←hV1] at rY bY
   have HV1:=Hid.mk' hV1
   have hno:=hj.2.2.2
   clear hV1 hzY hit hJ0 ea hj
   gi_wp2_with (first
    | (refine wpListIn_store_rd rfl 60 _ _ rfl V.heap.size 0 (ints .u8 32 Yk).toArray rfl rfl hth hiY hoY ?_;rw [List.toList_toArray,←HV1.out];clear HV1 hth))
   refine ⟨bY,fun V2 hbut hsz hJ2 => ?_⟩
   obtain ⟨j2,j3,j4,j5⟩:=hJ2
   have rY2:=rY.but7 hbut (show V.heap.size≠l by omega)
   have c2:=j2.lf
   have cB:=iBelow_any (pk:Int) (i:Int) V2 j2.hh.db
   clear rY bY hbut
   cases hbb:belB (pk:Int) (i:Int) with
   | false =>
    rw [hbb] at cB
    gi_wp2_with (refine ⟨trivial,rfl,?_⟩;gi_at_call 72;refine (callsIn_wide.2 cB).mono ?_;clear cB;rintro e V3 ⟨rfl,hb3⟩)
    exact ⟨Fro.of_below hb3,M,fun b hb => .inl hb,j2.loc (M:=fun _=>False) hT hD (Loc.of_below hb3) hB7,(hbf hbb).1,(hbf hbb).2,j5⟩
   | true =>
    rw [hbb] at cB
    obtain ⟨t1,t2,t3⟩:=hbt hbb
    gi_upto_region 5 with (refine ⟨trivial,rfl,?_⟩;gi_at_call 72;refine (callsIn_wide.2 cB).mono ?_;clear cB;rintro e V3 ⟨rfl,hb3⟩)
    have hdr:Below V3.heap.size V3 V3.drew:=(Below.refl _ _).drew
    have hb4:=below_next hb3 hdr
    have j4':=j2.loc (M:=fun _=>False) hT hD (Loc.of_below hb4) hB7
    have rY4:=rY2.still hb4
    have hlt:=rY4.lt
    have hbig:w.heap.size+7≤V.heap.size:=by omega
    have q6:=j4'.r6.range 0 _ rfl
    have q6f:=(j4'.r6.there 0 (by simp)).2
    have q8:=j4'.r8.range 0 _ rfl
    have q8f:=(j4'.r8.there 0 (by simp)).2
    rw [Nat.zero_add] at q6 q6f q8 q8f
    refine wpIn_held (S:=fun u=>RW u V.heap.size 0 (ints .u8 32 Yk)) (by kernel_rfl) (by kernel_rfl) rY4 (fun hS => ?_)
    generalize V3.drew=V4 at *
    refine tg 0 hS ?_
    (try simp only [pS])
    refine tR 1 hS (fun u hu=>hu.range) 60 Tryz.underlying60 (infoSd Yk) ?_
    (try simp only [pS])
    refine wpAnyH_ready (rs:=[2]) (by kernel_rfl) (by simp) ?_
    refine zSkip 2 (V4.setCell ⟨w.heap.size+2,0,none⟩ (.int .i64 (pk:Int))) (hS.far (w.heap.size+2) 0 [.int .i64 (pk:Int)] (.inl (by omega))) ?_ AllReadyH.nil
    have z6:RW (V4.setCell ⟨w.heap.size+2,0,none⟩ (.int .i64 (pk:Int))) (w.heap.size+2) 0 [.int .i64 (pk:Int)]:=j4'.r6.stored [.int .i64 (pk:Int)] rfl
    have z7:RW (V4.setCell ⟨w.heap.size+2,0,none⟩ (.int .i64 (pk:Int))) (w.heap.size+3) 0 (ints .u8 32 lZ):=j4'.r7.far (w.heap.size+2) 0 [.int .i64 (pk:Int)] (.inl (by omega))
    have z8:RW (V4.setCell ⟨w.heap.size+2,0,none⟩ (.int .i64 (pk:Int))) (w.heap.size+4) 0 [.bool false]:=j4'.r8.far (w.heap.size+2) 0 [.int .i64 (pk:Int)] (.inl (by omega))
    have zY:RW (V4.setCell ⟨w.heap.size+2,0,none⟩ (.int .i64 (pk:Int))) V.heap.size 0 (ints .u8 32 Yk):=hS.far (w.heap.size+2) 0 [.int .i64 (pk:Int)] (.inl (by omega))
    have o5:But (fun b=>b=w.heap.size+2) V4 (V4.setCell ⟨w.heap.size+2,0,none⟩ (.int .i64 (pk:Int))):=⟨rfl,rfl,rfl,by simp,fun b _ hb=>Below.heap_setCell _ _ _ _ hb⟩
    have s5:(V4.setCell ⟨w.heap.size+2,0,none⟩ (.int .i64 (pk:Int))).heap.size=V4.heap.size:=by simp
    generalize V4.setCell ⟨w.heap.size+2,0,none⟩ (.int .i64 (pk:Int))=V5 at *
    refine wpAnyH_ready (rs:=[3]) (by kernel_rfl) (by simp) ?_
    refine zS 3 60 7 20 (ints .u8 32 Yk) z7 (by rw [ints_len,ints_len]) (infoSdA Yk) (oneU7 32 Yk) (zY.far (w.heap.size+3) 0 (ints .u8 32 Yk) (.inl (by omega))) (fun rz => ?_) AllReadyH.nil
    have o6:But (fun b=>b=w.heap.size+3) V5 (V5.setCells (w.heap.size+3) 0 (ints .u8 32 Yk)):=but_cells _ _ _ _
    have s6:(V5.setCells (w.heap.size+3) 0 (ints .u8 32 Yk)).heap.size=V5.heap.size:=(setCells_same _ _ _ _).2.2.2
    have y6:=z6.far (w.heap.size+3) 0 (ints .u8 32 Yk) (.inl (by omega))
    have y8:=z8.far (w.heap.size+3) 0 (ints .u8 32 Yk) (.inl (by omega))
    have yY:=zY.far (w.heap.size+3) 0 (ints .u8 32 Yk) (.inl (by omega))
    generalize V5.setCells (w.heap.size+3) 0 (ints .u8 32 Yk)=V6 at *
    have q9:=y8.range 0 _ rfl
    have q9f:=(y8.there 0 (by simp)).2
    rw [Nat.zero_add] at q9 q9f
    refine wpAnyH_ready (rs:=[4]) (by kernel_rfl) (by simp) ?_
    refine zSkip 4 (V6.setCell ⟨w.heap.size+4,0,none⟩ (.bool true)) (yY.far (w.heap.size+4) 0 [.bool true] (.inl (by omega))) ?_ AllReadyH.nil
    have o7:But (fun b=>b=w.heap.size+4) V6 (V6.setCell ⟨w.heap.size+4,0,none⟩ (.bool true)):=⟨rfl,rfl,rfl,by simp,fun b _ hb=>Below.heap_setCell _ _ _ _ hb⟩
    have s7:(V6.setCell ⟨w.heap.size+4,0,none⟩ (.bool true)).heap.size=V6.heap.size:=by simp
    have x6:=y6.far (w.heap.size+4) 0 [.bool true] (.inl (by omega))
    have x7:=rz.far (w.heap.size+4) 0 [.bool true] (.inl (by omega))
    have x8:=y8.stored [.bool true] rfl
    have e7:V6.setCells (w.heap.size+4) 0 [.bool true]=V6.setCell ⟨w.heap.size+4,0,none⟩ (.bool true):=rfl
    rw [e7] at x6 x7 x8
    generalize V6.setCell ⟨w.heap.size+4,0,none⟩ (.bool true)=V7 at *
    refine wpAnyH_done (by kernel_rfl) ?_ _
    refine OnlyN.normal ?_
    have bb:But (fun b=>b=w.heap.size+2∨b=w.heap.size+3∨b=w.heap.size+4) V4 V7:=(o5.mono (fun k h => .inl h)).trans ((o6.mono (fun k h => .inr (.inl h))).trans (o7.mono (fun k h => .inr (.inr h))))
    have bl7:Below w.heap.size w V7:=j4'.bel.trans (bb.below (by have:=j4'.bel.size;omega) (fun k hk=>by omega))
    have h5x:V7.cell? ⟨w.heap.size,0,none⟩=some (.int .i64 (i:Int)):=bb.cell j4'.lf (by omega)
    have h5b:HasH (w.heap.size+5) (w.heap.size+6) (x:Int) X V7:=⟨bb.cell j4'.hh.bx (by omega),fun j v hv=>bb.cell (j4'.hh.sd j v hv) (by omega),hT.still bl7,hD.keep bl7⟩
    have hJ7:TwJ w i (x:Int) X (pk:Int) Yk true V7:=⟨h5x,x6,x7,x8,h5b,bl7⟩
    have hF7:Fro (w.heap.size+7) M V2 V7:=(Fro.of_below hb4).trans (Fro.of_but bb (fun k hk => .inl (by omega)))
    clear h5x h5b bb o5 o6 o7 x6 x7 x8 y6 y8 yY z6 z7 z8 zY rz q9 q9f q6 q6f q8 q8f
    gi_wp2
    refine ⟨hF7.mono (by omega),M,fun b hb => .inl hb,rfl,?_⟩
    rw [t1,t2,t3]
    exact hJ7
 · intro D M V hD' hDl hDm hj hdf
   obtain ⟨hj,n1,n2,-⟩:=hj
   have f1:=n1 (by decide)
   have f2:=n2 (by decide)
   have q6:=hj.r6.range 0 _ rfl
   have q6f:=(hj.r6.there 0 (by simp)).2
   rw [Nat.zero_add] at q6 q6f
   have z6:RW (V.setCell ⟨w.heap.size+2,0,none⟩ (.int .i64 0)) (w.heap.size+2) 0 [.int .i64 0]:=hj.r6.stored [.int .i64 0] rfl
   have z7:RW (V.setCell ⟨w.heap.size+2,0,none⟩ (.int .i64 0)) (w.heap.size+3) 0 (ints .u8 32 lZ):=hj.r7.far (w.heap.size+2) 0 [.int .i64 0] (.inl (by omega))
   have z8:RW (V.setCell ⟨w.heap.size+2,0,none⟩ (.int .i64 0)) (w.heap.size+4) 0 [.bool false]:=hj.r8.far (w.heap.size+2) 0 [.int .i64 0] (.inl (by omega))
   have o5:But (fun b=>b=w.heap.size+2) V (V.setCell ⟨w.heap.size+2,0,none⟩ (.int .i64 0)):=⟨rfl,rfl,rfl,by simp,fun b _ hb=>Below.heap_setCell _ _ _ _ hb⟩
   obtain ⟨V5,hV5⟩:∃ W,W=V.setCell ⟨w.heap.size+2,0,none⟩ (.int .i64 0):=⟨_,rfl⟩
   rw [←hV5] at z6 z7 z8 o5
   have y6:=z6.far (w.heap.size+3) 0 (ints .u8 32 lZ) (.inl (by omega))
   have y7:=z7.stored (ints .u8 32 lZ) rfl
   have y8:=z8.far (w.heap.size+3) 0 (ints .u8 32 lZ) (.inl (by omega))
   have o6:But (fun b=>b=w.heap.size+3) V5 (V5.setCells (w.heap.size+3) 0 (ints .u8 32 lZ)):=but_cells _ _ _ _
   obtain ⟨V6,hV6⟩:∃ W,W=V5.setCells (w.heap.size+3) 0 (ints .u8 32 lZ):=⟨_,rfl⟩
   rw [←hV6] at y6 y7 y8 o6
   have q8:=y8.range 0 _ rfl
   have q8f:=(y8.there 0 (by simp)).2
   rw [Nat.zero_add] at q8 q8f
   have x6:=y6.far (w.heap.size+4) 0 [.bool false] (.inl (by omega))
   have x7:=y7.far (w.heap.size+4) 0 [.bool false] (.inl (by omega))
   have x8:=y8.stored [.bool false] rfl
   have o7:But (fun b=>b=w.heap.size+4) V6 (V6.setCell ⟨w.heap.size+4,0,none⟩ (.bool false)):=⟨rfl,rfl,rfl,by simp,fun b _ hb=>Below.heap_setCell _ _ _ _ hb⟩
   have e7:V6.setCells (w.heap.size+4) 0 [.bool false]=V6.setCell ⟨w.heap.size+4,0,none⟩ (.bool false):=rfl
   rw [e7] at x6 x7 x8
   obtain ⟨V7,hV7⟩:∃ W,W=V6.setCell ⟨w.heap.size+4,0,none⟩ (.bool false):=⟨_,rfl⟩
   rw [←hV7] at x6 x7 x8 o7
   have hiZ:=infoSdA lZ
   have hoZ:=oneU7 32 lZ
   have hth:V5.there (w.heap.size+3) 0 (ints .u8 32 lZ).toArray.size:=by have h:=z7.there;rw [List.size_toArray];exact h
   have HV5:=Hid.mk' hV5
   have HV6:=Hid.mk' hV6
   have HV7:=Hid.mk' hV7
   have bb:But (fun b=>b=w.heap.size+2∨b=w.heap.size+3∨b=w.heap.size+4) V V7:=(o5.mono (fun k h => .inl h)).trans ((o6.mono (fun k h => .inr (.inl h))).trans (o7.mono (fun k h => .inr (.inr h))))
   have bl7:Below w.heap.size w V7:=hj.bel.trans (bb.below (by have:=hj.bel.size;omega) (fun k hk=>by omega))
   have hdf7:=(bb.block D hDl (by omega)).trans hdf
   have hbD:=but_put V7 D (.deferred none)
   have c6:=hbD.cell (x6.range 0 _ rfl) (by omega)
   have c7:(V7.putObj D (.deferred none)).rangeAt (w.heap.size+3) 0 (ints .u8 32 lZ):=fun j v hv=>hbD.cell (x7.range j v hv) (by omega)
   have c8:=hbD.cell (x8.range 0 _ rfl) (by omega)
   have hlast:=hbD.below (B:=w.heap.size) (Nat.le_trans hj.bel.size bb.size) (fun k hk=>by omega)
   rw [Nat.zero_add] at c6 c8
   clear hV5 hV6 hV7 z6 z7 z8 y6 y7 y8 x6 x7 x8 o5 o6 o7 bb hdf hJ0 hit hbD hj
   gi_wp2_with (first
    | (rw [←HV5.out];clear HV5)
    | (refine wpListIn_store_mid rfl 60 _ _ rfl (w.heap.size+3) 0 (ints .u8 32 lZ).toArray rfl rfl hth hiZ hoZ ?_;rw [List.toList_toArray,←HV6.out])
    | (rw [←HV7.out];clear HV7))
   refine ⟨by simp,.inl ⟨_,_,rfl,run_takeDeferred hdf7,?_⟩⟩
   have u1:twP i x=0:=by unfold twP;rw [if_pos hx,f1,f2];rfl
   have u2:twS i x X=lZ:=by unfold twS;rw [if_pos hx,f1,f2];rfl
   have u3:twB i x=false:=by unfold twB;rw [f1,f2,Bool.or_false,Bool.and_false]
   rw [u1,u2,u3]
   exact ⟨_,results_tw rfl _ _ (w.heap.size+2) (w.heap.size+3) (w.heap.size+4) 0 lZ false rfl rfl rfl c6 c7 c8,rfl,bl7.trans hlast⟩
 · intro D c M V hD' hDl hDm hj hdf
   obtain ⟨rfl,hj⟩:=hj
   have hbD:=but_put V D (.deferred none)
   gi_wp2
   refine ⟨by simp,.inl ⟨_,_,rfl,run_takeDeferred hdf,?_⟩⟩
   have c6:=hbD.cell (hj.r6.range 0 _ rfl) (by omega)
   have c8:=hbD.cell (hj.r8.range 0 _ rfl) (by omega)
   rw [Nat.zero_add] at c6 c8
   exact ⟨_,results_tw rfl _ _ (w.heap.size+2) (w.heap.size+3) (w.heap.size+4) _ _ _ rfl rfl rfl c6 (fun j v hv=>hbD.cell (hj.r7.range j v hv) (by omega)) c8,rfl,hj.bel.trans (hbD.below (by have:=hj.bel.size;omega) (fun k hk=>by omega))⟩
set_option maxRecDepth 100000 in
set_option maxHeartbeats 4000000 in
theorem toward_leaf (i x:Nat) (X:Nat→Nat) (_hX:∀ j,X j<256) (hx:innB (x:Int)=false) (w:World) (hT:TabAt w) (hD:DbT w) :
 Calls Tryz.prog 61 #[.int .i64 (i:Int),.int .i64 (x:Int),sdV X] w fun e w'=>e = .returned (.tuple #[.int .i64 (twP i x),sdV (twS i x X),.bool (twB i x)])∧Below w.heap.size w w':=by
 obtain ⟨U,hU⟩:∃ U,U=((((w.alloc (.cells #[.int .i64 (i:Int)] 3)).alloc (.cells (ints .u8 32 X).toArray 60)).alloc (.cells #[.int .i64 0] 3)).alloc (.cells #[.int .u8 0,.int .u8 0,.int .u8 0,.int .u8 0,.int .u8 0,.int .u8 0,.int .u8 0,.int .u8 0,.int .u8 0,.int .u8 0,.int .u8 0,.int .u8 0,.int .u8 0,.int .u8 0,.int .u8 0,.int .u8 0,.int .u8 0,.int .u8 0,.int .u8 0,.int .u8 0,.int .u8 0,.int .u8 0,.int .u8 0,.int .u8 0,.int .u8 0,.int .u8 0,.int .u8 0,.int .u8 0,.int .u8 0,.int .u8 0,.int .u8 0,.int .u8 0] 60)).alloc (.cells #[.bool false] 4):=⟨_,rfl⟩
 have su:U.heap.size=w.heap.size+5:=by rw [hU];simp
 have bu:Below w.heap.size w U:=by
  rw [hU]
  exact (((((Below.refl _ _).alloc (Nat.le_refl _) _).alloc (by simp) _).alloc (by simp;omega) _).alloc (by simp;omega) _).alloc (by simp;omega) _
 have cs:U.rangeAt (w.heap.size+1) 0 (ints .u8 32 X):=by
  have h:=RW.fresh (w.alloc (.cells #[.int .i64 (i:Int)] 3)) (ints .u8 32 X) 60
  rw [World.size_alloc] at h
  rw [hU]
  exact (((h.still ((Below.refl _ _).alloc (Nat.le_refl _) _)).still ((Below.refl _ _).alloc (Nat.le_refl _) _)).still ((Below.refl _ _).alloc (Nat.le_refl _) _)).range
 have c0:U.cell? ⟨w.heap.size,0,none⟩=some (.int .i64 (i:Int)):=by
  have h:=RW.fresh w [.int .i64 (i:Int)] 3
  rw [hU]
  exact ((((h.still ((Below.refl _ _).alloc (Nat.le_refl _) _)).still ((Below.refl _ _).alloc (Nat.le_refl _) _)).still ((Below.refl _ _).alloc (Nat.le_refl _) _)).still ((Below.refl _ _).alloc (Nat.le_refl _) _)).range 0 _ rfl
 have r6:RW U (w.heap.size+2) 0 [.int .i64 0]:=by
  have h:=RW.fresh ((w.alloc (.cells #[.int .i64 (i:Int)] 3)).alloc (.cells (ints .u8 32 X).toArray 60)) [.int .i64 0] 3
  rw [World.size_alloc,World.size_alloc] at h
  rw [hU]
  exact (h.still ((Below.refl _ _).alloc (Nat.le_refl _) _)).still ((Below.refl _ _).alloc (Nat.le_refl _) _)
 have r7:RW U (w.heap.size+3) 0 (ints .u8 32 lZ):=by
  have h:=sd_zero (((w.alloc (.cells #[.int .i64 (i:Int)] 3)).alloc (.cells (ints .u8 32 X).toArray 60)).alloc (.cells #[.int .i64 0] 3))
  rw [World.size_alloc,World.size_alloc,World.size_alloc] at h
  rw [hU]
  exact h.still ((Below.refl _ _).alloc (Nat.le_refl _) _)
 have r8:RW U (w.heap.size+4) 0 [.bool false]:=by
  have h:=RW.fresh ((((w.alloc (.cells #[.int .i64 (i:Int)] 3)).alloc (.cells (ints .u8 32 X).toArray 60)).alloc (.cells #[.int .i64 0] 3)).alloc (.cells #[.int .u8 0,.int .u8 0,.int .u8 0,.int .u8 0,.int .u8 0,.int .u8 0,.int .u8 0,.int .u8 0,.int .u8 0,.int .u8 0,.int .u8 0,.int .u8 0,.int .u8 0,.int .u8 0,.int .u8 0,.int .u8 0,.int .u8 0,.int .u8 0,.int .u8 0,.int .u8 0,.int .u8 0,.int .u8 0,.int .u8 0,.int .u8 0,.int .u8 0,.int .u8 0,.int .u8 0,.int .u8 0,.int .u8 0,.int .u8 0,.int .u8 0,.int .u8 0] 60)) [.bool false] 4
  rw [World.size_alloc,World.size_alloc,World.size_alloc,World.size_alloc] at h
  rw [hU]
  exact h
 have hiX:=infoSd X
 have cH:=halves_any (x:Int) X U
 obtain ⟨V,hV⟩:∃ V,V=(U.alloc (.cells #[.int .i64 (x:Int)] 3)).alloc (.cells (ints .u8 32 X).toArray 60):=⟨_,rfl⟩
 rw [←hV,su] at cH
 have bv:Below U.heap.size U V:=by rw [hV];exact ((Below.refl _ _).alloc (Nat.le_refl _) _).alloc (by simp) _
 have sv:V.heap.size=w.heap.size+7:=by rw [hV];simp;omega
 have hJ0:TwJ w i (x:Int) X 0 lZ false V:=by
  refine ⟨(bv.cell (p:=⟨w.heap.size,0,none⟩) (by show w.heap.size<_;omega)).trans c0,r6.still bv,r7.still bv,r8.still bv,⟨?_,?_,hT.still (below_next bu bv),hD.keep (below_next bu bv)⟩,below_next bu bv⟩
  · have h:=(RW.fresh U [.int .i64 (x:Int)] 3).still ((Below.refl _ _).alloc (Nat.le_refl _) (.cells (ints .u8 32 X).toArray 60))
    rw [su] at h
    rw [hV]
    exact h.range 0 _ rfl
  · have h:=RW.fresh (U.alloc (.cells #[.int .i64 (x:Int)] 3)) (ints .u8 32 X) 60
    rw [World.size_alloc,su] at h
    rw [hV]
    exact h.range
 have hit:=halves_none (w.heap.size+5) (w.heap.size+6) (x:Int) X hx (fun k=>some (halfAr x X k))
 have HU:=Hid.mk' hU
 clear hU hV r6 r7 r8 bv
 have hUs:=su
 unfold sdV at cH ⊢
 obtain ⟨nn,-⟩:∃ nn:Nat,True:=⟨1,trivial⟩
 refine (callsIn_wide (n:=nn)).1 ?_
 refine callsIn_of_wp_marks Tryz.func61 rfl trivial ?_ rfl
 simp only [Tryz.ntmps61,List.size_toArray,List.length_cons,List.length_nil,Nat.reduceAdd,Nat.reduceSub,Array.replicate_succ,Array.replicate_zero,List.push_toArray,List.append_toArray,List.nil_append,List.cons_append]
 gi_wp2_with (first
  | (rw [←HU.out];clear HU)
  | (refine wpListIn_load_mid rfl 60 _ rfl (w.heap.size+1) 0 rfl (ints .u8 32 X) _ cs Tryz.underlying60 rfl hiX ?_)
  | (refine ⟨trivial,(fun h=>by cases h),?_⟩;gi_at_call 52;refine (callsIn_wide.2 cH).mono ?_;clear cH;rintro e w1 ⟨rfl,rfl⟩))
 have hB7:w.heap.size+7≤w1.heap.size:=by omega
 refine range_it hit rfl (enters_of Tryz.func63 (by kernel_rfl) rfl)
  (fun k M' V'=>TwJ w i (x:Int) X 0 lZ false V'∧(0<k→belB (lftN x:Int) (i:Int)=false)∧(1<k→belB (rgtN x:Int) (i:Int)=false)∧∀ b,¬M' b)
  (fun c M' V'=>c = .ret∧TwJ w i (x:Int) X (twP i x) (twS i x X) (twB i x) V') (fun _=>False) ?_ ?_ ?_ ?_ ?_ (fun b hb=>hb.elim) ?_ ?_ ?_ ?_
 · rintro k M V V' ⟨h1,h2,h3,h4⟩ hL
   exact ⟨h1.loc hT hD hL hB7,h2,h3,h4⟩
 · rintro c M V V' ⟨h1,h2⟩ hL
   exact ⟨h1,h2.loc hT hD hL hB7⟩
 · rintro k M V hk ⟨h1,-⟩
   exact h1.hh
 · intro k M V _ h;cases h
 · intro k a' h;cases h;unfold halfAr;split <;> rfl
 · intro V hb
   exact ⟨hJ0.loc (M:=fun _=>False) hT hD (Loc.of_below hb) hB7,fun h=>absurd h (Nat.lt_irrefl _),fun h=>absurd h (by decide),fun _ h=>h⟩
 · intro k M V l a' hk ha hj hl1 hl2 hl3
   exact absurd hk (Nat.not_lt_zero _)
 · intro D M V hD' hDl hDm hj hdf
   obtain ⟨hj,n1,n2,-⟩:=hj
   clear n1 n2
   have q6:=hj.r6.range 0 _ rfl
   have q6f:=(hj.r6.there 0 (by simp)).2
   rw [Nat.zero_add] at q6 q6f
   have z6:RW (V.setCell ⟨w.heap.size+2,0,none⟩ (.int .i64 0)) (w.heap.size+2) 0 [.int .i64 0]:=hj.r6.stored [.int .i64 0] rfl
   have z7:RW (V.setCell ⟨w.heap.size+2,0,none⟩ (.int .i64 0)) (w.heap.size+3) 0 (ints .u8 32 lZ):=hj.r7.far (w.heap.size+2) 0 [.int .i64 0] (.inl (by omega))
   have z8:RW (V.setCell ⟨w.heap.size+2,0,none⟩ (.int .i64 0)) (w.heap.size+4) 0 [.bool false]:=hj.r8.far (w.heap.size+2) 0 [.int .i64 0] (.inl (by omega))
   have o5:But (fun b=>b=w.heap.size+2) V (V.setCell ⟨w.heap.size+2,0,none⟩ (.int .i64 0)):=⟨rfl,rfl,rfl,by simp,fun b _ hb=>Below.heap_setCell _ _ _ _ hb⟩
   obtain ⟨V5,hV5⟩:∃ W,W=V.setCell ⟨w.heap.size+2,0,none⟩ (.int .i64 0):=⟨_,rfl⟩
   rw [←hV5] at z6 z7 z8 o5
   have y6:=z6.far (w.heap.size+3) 0 (ints .u8 32 lZ) (.inl (by omega))
   have y7:=z7.stored (ints .u8 32 lZ) rfl
   have y8:=z8.far (w.heap.size+3) 0 (ints .u8 32 lZ) (.inl (by omega))
   have o6:But (fun b=>b=w.heap.size+3) V5 (V5.setCells (w.heap.size+3) 0 (ints .u8 32 lZ)):=but_cells _ _ _ _
   obtain ⟨V6,hV6⟩:∃ W,W=V5.setCells (w.heap.size+3) 0 (ints .u8 32 lZ):=⟨_,rfl⟩
   rw [←hV6] at y6 y7 y8 o6
   have q8:=y8.range 0 _ rfl
   have q8f:=(y8.there 0 (by simp)).2
   rw [Nat.zero_add] at q8 q8f
   have x6:=y6.far (w.heap.size+4) 0 [.bool false] (.inl (by omega))
   have x7:=y7.far (w.heap.size+4) 0 [.bool false] (.inl (by omega))
   have x8:=y8.stored [.bool false] rfl
   have o7:But (fun b=>b=w.heap.size+4) V6 (V6.setCell ⟨w.heap.size+4,0,none⟩ (.bool false)):=⟨rfl,rfl,rfl,by simp,fun b _ hb=>Below.heap_setCell _ _ _ _ hb⟩
   have e7:V6.setCells (w.heap.size+4) 0 [.bool false]=V6.setCell ⟨w.heap.size+4,0,none⟩ (.bool false):=rfl
   rw [e7] at x6 x7 x8
   obtain ⟨V7,hV7⟩:∃ W,W=V6.setCell ⟨w.heap.size+4,0,none⟩ (.bool false):=⟨_,rfl⟩
   rw [←hV7] at x6 x7 x8 o7
   have hiZ:=infoSdA lZ
   have hoZ:=oneU7 32 lZ
   have hth:V5.there (w.heap.size+3) 0 (ints .u8 32 lZ).toArray.size:=by have h:=z7.there;rw [List.size_toArray];exact h
   have HV5:=Hid.mk' hV5
   have HV6:=Hid.mk' hV6
   have HV7:=Hid.mk' hV7
   have bb:But (fun b=>b=w.heap.size+2∨b=w.heap.size+3∨b=w.heap.size+4) V V7:=(o5.mono (fun k h => .inl h)).trans ((o6.mono (fun k h => .inr (.inl h))).trans (o7.mono (fun k h => .inr (.inr h))))
   have bl7:Below w.heap.size w V7:=hj.bel.trans (bb.below (by have:=hj.bel.size;omega) (fun k hk=>by omega))
   have hdf7:=(bb.block D hDl (by omega)).trans hdf
   have hbD:=but_put V7 D (.deferred none)
   have c6:=hbD.cell (x6.range 0 _ rfl) (by omega)
   have c7:(V7.putObj D (.deferred none)).rangeAt (w.heap.size+3) 0 (ints .u8 32 lZ):=fun j v hv=>hbD.cell (x7.range j v hv) (by omega)
   have c8:=hbD.cell (x8.range 0 _ rfl) (by omega)
   have hlast:=hbD.below (B:=w.heap.size) (Nat.le_trans hj.bel.size bb.size) (fun k hk=>by omega)
   rw [Nat.zero_add] at c6 c8
   clear hV5 hV6 hV7 z6 z7 z8 y6 y7 y8 x6 x7 x8 o5 o6 o7 bb hdf hJ0 hit hbD hj
   gi_wp2_with (first
    | (rw [←HV5.out];clear HV5)
    | (refine wpListIn_store_mid rfl 60 _ _ rfl (w.heap.size+3) 0 (ints .u8 32 lZ).toArray rfl rfl hth hiZ hoZ ?_;rw [List.toList_toArray,←HV6.out])
    | (rw [←HV7.out];clear HV7))
   refine ⟨by simp,.inl ⟨_,_,rfl,run_takeDeferred hdf7,?_⟩⟩
   have u1:twP i x=0:=by unfold twP;rw [if_neg (by rw [hx];exact Bool.false_ne_true)]
   have u2:twS i x X=lZ:=by unfold twS;rw [if_neg (by rw [hx];exact Bool.false_ne_true)]
   have u3:twB i x=false:=by unfold twB;rw [hx,Bool.false_and]
   rw [u1,u2,u3]
   exact ⟨_,results_tw rfl _ _ (w.heap.size+2) (w.heap.size+3) (w.heap.size+4) 0 lZ false rfl rfl rfl c6 c7 c8,rfl,bl7.trans hlast⟩
 · intro D c M V hD' hDl hDm hj hdf
   obtain ⟨rfl,hj⟩:=hj
   have hbD:=but_put V D (.deferred none)
   gi_wp2
   refine ⟨by simp,.inl ⟨_,_,rfl,run_takeDeferred hdf,?_⟩⟩
   have c6:=hbD.cell (hj.r6.range 0 _ rfl) (by omega)
   have c8:=hbD.cell (hj.r8.range 0 _ rfl) (by omega)
   rw [Nat.zero_add] at c6 c8
   exact ⟨_,results_tw rfl _ _ (w.heap.size+2) (w.heap.size+3) (w.heap.size+4) _ _ _ rfl rfl rfl c6 (fun j v hv=>hbD.cell (hj.r7.range j v hv) (by omega)) c8,rfl,hj.bel.trans (hbD.below (by have:=hj.bel.size;omega) (fun k hk=>by omega))⟩
theorem toward_all (i x:Nat) (X:Nat→Nat) (hX:∀ j,X j<256) (w:World) (hT:TabAt w) (hD:DbT w) :
 Calls Tryz.prog 61 #[.int .i64 (i:Int),.int .i64 (x:Int),sdV X] w fun e w'=>e = .returned (.tuple #[.int .i64 (twP i x),sdV (twS i x X),.bool (twB i x)])∧Below w.heap.size w w':=by
 cases h:innB (x:Int) with
 | true=>exact toward_any i x X hX h w hT hD
 | false=>exact toward_leaf i x X hX h w hT hD
end Go.Proofs.YtbbikhlbkpjpjaaGreatDoor
