/- What the proof stands on: A8Sq, QCN, A8Ops, A8Op2, A8Op3. -/
import Derived.Test.YtcgkajlehdgpoaaGreatDoorBaseM
import Derived.Test.YtcgkajlehdgpoaaGreatDoorLPubM
import Derived.Deep.Cut
namespace Go.Proofs.YtcgkajlehdgpoaaGreatDoor
open Go.RowKit
def sqV (X:Nat→Nat):Value := .agg (ints .u8 16 X).toArray
theorem zeroS (w:World):Sem.run Tryz.prog (zeroValue 169) w = .ok (.agg (zb 16)) w:=by kernel_rfl
theorem zeroB (w:World):Sem.run Tryz.prog (zeroValue 201) w = .ok (.agg (zb 256)) w:=by kernel_rfl
theorem ints_size (K:IntKind) (n:Nat) (X:Nat→Nat):(ints K n X).toArray.size=n:=by rw [List.size_toArray,ints_len]
theorem infoS (X:Nat→Nat):(Tryz.prog.info? 169).map (·.size)=some (ints .u8 16 X).length:=by rw [ints_len];kernel_rfl
theorem infoSA (X:Nat→Nat):(Tryz.prog.info? 169).map (·.size)=some (ints .u8 16 X).toArray.size:=by rw [ints_size];kernel_rfl
theorem infoB (X:Nat→Nat):(Tryz.prog.info? 201).map (·.size)=some (ints .u8 256 X).length:=by rw [ints_len];kernel_rfl
theorem infoBA (X:Nat→Nat):(Tryz.prog.info? 201).map (·.size)=some (ints .u8 256 X).toArray.size:=by rw [ints_size];kernel_rfl
theorem oneU (n:Nat) (X:Nat→Nat):(ints .u8 n X).toArray.all (·.oneCell')=true:=all_oneCell_toArray (ints_one .u8 n X)
theorem RowAt.box (K:IntKind) (w:World) (n:Nat) (X:Nat→Nat) (t:TypeId):RowAt K (w.alloc (.cells (ints K n X).toArray t)) w.heap.size 0 n X:=RowAt.fresh (fun j hj=>by rw [List.getElem?_toArray];exact ints_at K n X j hj)
theorem RowAt.stored {K:IntKind} {w:World} {g n:Nat} {M L:Nat→Nat} (h:RowAt K w g 0 n M):RowAt K (w.setCells g 0 (ints K n L)) g 0 n L:=fun j hj=>by
 have hr:=World.rangeAt_setCells_same w g 0 (ints K n L) (by rw [ints_len];exact h.there)
 exact ⟨hr j _ (ints_at K n L j hj),(World.frozen?_setCells g (ints K n L) 0 w _).trans (h j hj).2⟩
theorem RowAt.farCells {K:IntKind} {w:World} {g o n:Nat} {L:Nat→Nat} (h:RowAt K w g o n L) {k:Nat} (hk:g≠k) (p:Nat) (vs:List Value):RowAt K (w.setCells k p vs) g o n L:=fun j hj=>by
 have hb:(w.setCells k p vs).heap[g]? = w.heap[g]?:=heap_setCells_other k vs p w g hk
 exact ⟨(World.cell?_of_block (w:=w) hb).trans (h j hj).1,(World.frozen?_of_block (w:=w) hb).trans (h j hj).2⟩
theorem RowAt.zero (w:World) (n:Nat) (t:TypeId):RowAt .u8 (w.alloc (.cells (zb n) t)) w.heap.size 0 n (fun _=>0):=RowAt.fresh (fun j hj=>zb_at n j hj)
theorem wpList_val {P:Program} {w:World} {ops:Array Oper} {rest:List Oper} {o:Oper} {a:Act} {Q:Exit→Act→World→Prop} (d:Option Nat) (v:Value) (hgd:o.guard=none) (hd:o.dst=d) (hrun:(execOp a.eval o).run P w = .ok (.value v) w)
 (h:wpList P ops Q rest (a.put d v) w):wpList P ops Q (o :: rest) a w:=by
 subst hd
 refine wpList_plain hgd fun K hK => ?_
 unfold Oper.wp
 rw [hrun,Oper.upon_value]
 exact hK _ _ h
theorem index_u8 {t n:Nat} (hu:Tryz.prog.underlying t=some (.array n 5)) (X:Nat→Nat) (k:Nat) (hk:k<n) (kk:IntKind) (W:World):(Instr.index t (.agg (ints .u8 n X).toArray) (.int kk k)).run Tryz.prog W = .ok (.int .u8 (X k)) W:=by
 have hs:∀ W,(sizeOf 5).run Tryz.prog W = .ok 1 W:=fun W=>by kernel_rfl
 have hx:(ints .u8 n X)[k]? = some (.int .u8 (X k)):=ints_at .u8 n X k hk
 simp [Instr.index,run_underlying hu,asIntOf,hk,hs,part,isAgg,run_underlying Tryz.underlying5,hx,Result.andThen]
set_option maxRecDepth 20000 in
set_option maxHeartbeats 2000000 in
theorem boxes_any (w:World) :
 Calls Tryz.prog 167 #[] w fun e w'=>e = .returned (.agg (ints .u8 256 boxN).toArray)∧Below w.heap.size w w':=by
 have hz:=zeroB
 have hb:Below w.heap.size w (w.alloc (.cells (zb 256) 201)):=(Below.refl _ _).alloc (Nat.le_refl _) _
 have hT:(w.alloc (.cells (zb 256) 201)).there w.heap.size 0 256:=(RowAt.zero w 256 _).there
 have hi1:=infoB boxN
 have hi2:=infoBA boxN
 have ho:=oneU 256 boxN
 have hth:(w.alloc (.cells (zb 256) 201)).there w.heap.size 0 (ints .u8 256 boxN).toArray.size:=by rw [ints_size];exact hT
 have hth2:(w.alloc (.cells (zb 256) 201)).there w.heap.size 0 (ints .u8 256 boxN).length:=by rw [ints_len];exact hT
 obtain ⟨L,hL⟩:∃ L,L=ints .u8 256 boxN:=⟨_,rfl⟩
 rw [←hL] at hi1 hi2 ho hth hth2 ⊢
 have HL:=Hid.mk' hL
 clear hL hT
 go_enter Tryz.func167,Tryz.ntmps167
 go_upto_region 1 with (fail)
 refine wp_region_list ?_
 refine wpList_val (some 1) (.agg L.toArray) rfl rfl (by rw [HL.out];kernel_rfl) ?_
 refine wpList_store_mid rfl 201 _ _ rfl w.heap.size 0 L.toArray rfl rfl hth hi2 ho ?_
 refine wpList_nil ?_
 simp only [Act.put,List.setIfInBounds_toArray,List.set_cons_zero,List.set_cons_succ]
 go_wp2
 (try simp only [Exit.inBlock,Exit.then])
 refine bodyPost_ret (results_cell_mid Tryz.results167 _ _ w.heap.size 0 L _ rfl (World.rangeAt_setCells_same _ _ _ _ hth2) Tryz.underlying201 rfl hi1) rfl ⟨rfl,?_⟩
 exact below_setCells (Nat.le_refl _) _ _ _ hb
end Go.Proofs.YtcgkajlehdgpoaaGreatDoor
namespace Go.Proofs.YtcgkajlehdgpoaaGreatDoor
open Go.RowKit
def CCtx (w:World) (g:Nat) (K N X:Nat→Nat) (n:Nat):Prop:=∃ gk gu gx,RW w g 0 [.slice (some ⟨gk,0,none⟩) 16 16,.slice (some ⟨gu,0,none⟩) 12 12,.slice (some ⟨gx,0,none⟩) 32 32,.int .u64 (n:Int)]∧RowAt .u8 w gk 0 16 K∧RowAt .u8 w gu 0 12 N∧RowAt .u8 w gx 0 32 X
theorem RowAt.stay {w w':World} {g o n:Nat} {X:Nat→Nat} (h0:0<n) (h:RowAt .u8 w g o n X) (hb:Below w.heap.size w w'):RowAt .u8 w' g o n X:=h.below hb (block_lt_of_cell (h 0 h0).1)
theorem CCtx.keep {w w':World} {g:Nat} {K N X:Nat→Nat} {n:Nat} (h:CCtx w g K N X n) (hb:Below w.heap.size w w'):CCtx w' g K N X n:=by
 obtain ⟨k,u,x,r,h1,h2,h3⟩:=h
 exact ⟨k,u,x,r.still hb,h1.stay (by decide) hb,h2.stay (by decide) hb,h3.stay (by decide) hb⟩
theorem zeroKs (w:World):Sem.run Tryz.prog (zeroValue 52) w = .ok (.agg #[.slice none 0 0,.slice none 0 0,.slice none 0 0]) w:=by kernel_rfl
theorem infoKs (a b c:Value):(Tryz.prog.info? 52).map (·.size)=some (#[a,b,c]:Array Value).size:=by kernel_rfl
theorem infoKl (a b c:Value):(Tryz.prog.info? 52).map (·.size)=some [a,b,c].length:=by kernel_rfl
theorem oneKs (x y z:Option Addr) (a b c d e f:Nat):(#[.slice x a b,.slice y c d,.slice z e f]:Array Value).all (·.oneCell')=true:=by simp [Value.oneCell']
theorem results_keys (tmps:Array Value) (w:World) (g:Nat) (a b c:Value) (hp:tmps.getD 4 undef = .pointer (some ⟨g,0,none⟩)) (h:RW w g 0 [a,b,c]):(results Tryz.f39 tmps).run Tryz.prog w = .ok (.agg #[a,b,c]) w :=
 results_cell_mid rfl tmps w g 0 [a,b,c] _ hp h.range Tryz.underlying52 rfl (infoKl a b c)
theorem call_any (label:List Nat) (hl:∀ x,x∈label→x<256) (hz:label.length≤50) (sv tv:Value) (sn cnt m:Nat) (salt t:Nat→Nat) (hs:∀ j,salt j<256) (ht:∀ j,t j<256) (hsn:sn≤32) (hc:cnt<1000000) (hm:m+300<140737488355000) (w:World) (hT:HTab w cubeK squareK) (h1:BytesIn w sv sn salt) (h2:Texts w tv cnt m t) :
 Calls Tryz.prog 29 #[.string { data:=#[72,80,75,69,0,32,0,1,0,1] },sv,.string (strL label),tv] w fun e w'=>∃ s,e = .returned s∧BytesIn w' s 32 (lxN lAll sn salt label m t)∧Below w.heap.size w w' :=
 cextract_any lAll label lAll_lt hl (by show 10+label.length≤100;omega) sv tv sn cnt m salt t hs ht (by omega) hc hm w hT h1 h2
theorem eall (label:List Nat) (hl:∀ x,x∈label→x<256) (hz:label.length≤50) (pv tv:Value) (cnt m N:Nat) (prk t:Nat→Nat) (hN:N≤8160) (hp:∀ j,prk j<256) (ht:∀ j,t j<256) (hc:cnt<1000000) (hm:m+300<140737488355000) (w:World) (hT:HTab w cubeK squareK) (h1:BytesIn w pv 32 prk) (h2:Texts w tv cnt m t) :
 Calls Tryz.prog 28 #[.string { data:=#[72,80,75,69,0,32,0,1,0,1] },pv,.int .i64 N,.string (strL label),tv] w fun e w'=>∃ s,e = .returned s∧NewR w w' s N (leN lAll 32 prk label m t N)∧Below w.heap.size w w' :=
 cexpand_any lAll label lAll_lt hl (by show 10+label.length≤100;omega) pv tv 32 cnt m N prk t hN hp ht (by decide) hc hm w hT h1 h2
set_option maxRecDepth 20000 in
set_option maxHeartbeats 8000000 in
theorem keysOf_any (v u:Value) (m:Nat) (s info:Nat→Nat) (hs:∀ j,s j<256) (hi:∀ j,info j<256) (hm:m≤65536) (w:World) (hT:HTab w cubeK squareK) (hv:BytesIn w v 32 s) (hu:BytesIn w u m info) :
 Calls Tryz.prog 39 #[v,u] w fun e w'=>∃ gk gu gx,e = .returned (.agg #[.slice (some ⟨gk,0,none⟩) 16 16,.slice (some ⟨gu,0,none⟩) 12 12,.slice (some ⟨gx,0,none⟩) 32 32])∧RowAt .u8 w' gk 0 16 (ckN lKey 16 s m info)∧RowAt .u8 w' gu 0 12 (ckN lBn 12 s m info)∧RowAt .u8 w' gx 0 32 (ckN lExp 32 s m info)∧Below w.heap.size w w':=by
 obtain ⟨x1,c1,rfl,-,-,-⟩:=hv.src
 obtain ⟨x2,c2,rfl,-,-,-⟩:=hu.src
 have zk:=zeroKs
 obtain ⟨W0,hW0⟩:∃ W,W=(w.alloc (.cells #[.slice none 0 0,.slice none 0 0,.slice none 0 0] 52)).alloc (.cells #[.int .u8 0] 5):=⟨_,rfl⟩
 have bz:Below w.heap.size w (w.alloc (.cells #[.slice none 0 0,.slice none 0 0,.slice none 0 0] 52)):=(Below.refl _ _).alloc (Nat.le_refl _) _
 have b0:Below w.heap.size w W0:=by rw [hW0];exact bz.alloc bz.size _
 have r0:RW W0 w.heap.size 0 [.slice none 0 0,.slice none 0 0,.slice none 0 0]:=by rw [hW0];exact (RW.fresh w _ _).still ((Below.refl _ _).alloc (Nat.le_refl _) _)
 have q0:BytesIn W0 (.slice (some ⟨w.heap.size+1,0,none⟩) 1 1) 1 lZ:=by
  have h:=litB_B (w.alloc (.cells #[.slice none 0 0,.slice none 0 0,.slice none 0 0] 52)) [0] (0,0)
  rw [World.size_alloc] at h
  rw [hW0]
  exact h.cong fun j hj=>by
   have:j=0:=by
    have:j<1:=hj
    omega
   subst this
   rfl
 have xp:Calls Tryz.prog 29 #[.string { data:=#[72,80,75,69,0,32,0,1,0,1] },.slice none 0 0,.string { data:=#[112,115,107,95,105,100,95,104,97,115,104] },.slice none 0 0] W0 _:=call_any lPsk (by decide) (by decide) (.slice none 0 0) (.slice none 0 0) 0 0 0 lZ lZ lZ_lt lZ_lt (by decide) (by decide) (by decide) W0 (hT.keep b0) (BytesIn.nil0 _ _) (texts_none _ _)
 have xi:∀ W,Below w.heap.size w W→Calls Tryz.prog 29 #[.string { data:=#[72,80,75,69,0,32,0,1,0,1] },.slice none 0 0,.string { data:=#[105,110,102,111,95,104,97,115,104] },.slice (some ⟨W.heap.size,0,none⟩) 1 1] (W.alloc (.cells #[.slice x2 m c2] 22)) _:=fun W hb=>call_any lInf (by decide) (by decide) (.slice none 0 0) _ 0 1 m lZ info lZ_lt hi (by decide) (by decide) (by omega) _ (hT.keep (hb.alloc hb.size _)) (BytesIn.nil0 _ _) (texts_one W _ m info (hu.keep hb))
 have xs:∀ W,Below w.heap.size w W→Calls Tryz.prog 29 #[.string { data:=#[72,80,75,69,0,32,0,1,0,1] },.slice x1 32 c1,.string { data:=#[115,101,99,114,101,116] },.slice none 0 0] W fun e w'=>∃ y,e = .returned y∧BytesIn w' y 32 (lxN lAll 32 s lSecr 0 lZ)∧Below W.heap.size W w':=fun W hb=>call_any lSecr (by decide) (by decide) (.slice x1 32 c1) (.slice none 0 0) 32 0 0 s lZ hs lZ_lt (by decide) (by decide) (by decide) W (hT.keep hb) (hv.keep hb) (texts_none _ _)
 have hj:∀ W v0 v1 v2,BytesIn W v0 1 lZ→BytesIn W v1 32 (lxN lAll 0 lZ lPsk 0 lZ)→BytesIn W v2 32 (lxN lAll 0 lZ lInf m info)→Calls Tryz.prog 61 #[.slice (some ⟨W.heap.size,0,none⟩) 3 3] (W.alloc (.cells #[v0,v1,v2] 22)) fun e w'=>∃ s,e = .returned s∧BytesIn w' s 65 (cxN m info)∧Below W.heap.size W w':=fun W v0 v1 v2 h0 h1 h2=>by
  have hP:=parts_list W [(v0,1,lZ),(v1,32,lxN lAll 0 lZ lPsk 0 lZ),(v2,32,lxN lAll 0 lZ lInf m info)] 22 (by
   intro p hp
   simp only [List.mem_cons,List.not_mem_nil,or_false] at hp
   rcases hp with rfl | rfl | rfl
   · exact h0
   · exact h1
   · exact h2)
  exact (concat_parts W.heap.size 3 65 (cxN m info) _ hP (by decide) (by decide) (by decide)).mono fun _ _ ⟨s,he,ho,hb'⟩=>⟨s,he,ho.bytesIn,below_next ((Below.refl _ _).alloc (Nat.le_refl _) _) hb'⟩
 have hcl:∀ j,cxN m info j<256:=catL_lt _ (by
  intro p hp
  simp only [List.mem_cons,List.not_mem_nil,or_false] at hp
  rcases hp with rfl | rfl | rfl
  · exact lZ_lt
  · exact lxN_lt _ _ _ _ _ _
  · exact lxN_lt _ _ _ _ _ _)
 have hcs:∀ j,csN s j<256:=fun j=>lxN_lt lAll 32 s lSecr 0 lZ j
 have ee:∀ label,(∀ x,x∈label→x<256)→label.length≤50→∀ N:Nat,N≤8160→∀ pv iv W,Below w.heap.size w W→BytesIn W pv 32 (csN s)→BytesIn W iv 65 (cxN m info)→Calls Tryz.prog 28 #[.string { data:=#[72,80,75,69,0,32,0,1,0,1] },pv,.int .i64 N,.string (strL label),.slice (some ⟨W.heap.size,0,none⟩) 1 1] (W.alloc (.cells #[iv] 22)) fun e w'=>∃ y,e = .returned y∧NewR W w' y N (ckN label N s m info)∧Below W.heap.size W w':=fun label hl hz N hN pv iv W hb hp hi=>by
  rw [show ckN label N s m info=leN lAll 32 (csN s) label 65 (cxN m info) N from rfl]
  have h:=eall label hl hz pv (.slice (some ⟨W.heap.size,0,none⟩) 1 1) 1 65 N (csN s) (cxN m info) hN hcs hcl (by decide) (by decide) (W.alloc (.cells #[iv] 22)) (hT.keep (hb.alloc hb.size _)) (hp.keep ((Below.refl _ _).alloc (Nat.le_refl _) _)) (texts_one W iv 65 (cxN m info) hi)
  generalize leN lAll 32 (csN s) label 65 (cxN m info) N=Y at h ⊢
  exact h.mono fun _ _ ⟨y,he,⟨g,hy,hg,hr⟩,hb'⟩=>⟨y,he,⟨g,hy,Nat.le_trans (by rw [World.size_alloc];omega) hg,hr⟩,below_next ((Below.refl _ _).alloc (Nat.le_refl _) _) hb'⟩
 have ek:∀ pv iv W,Below w.heap.size w W→BytesIn W pv 32 (csN s)→BytesIn W iv 65 (cxN m info)→Calls Tryz.prog 28 #[.string { data:=#[72,80,75,69,0,32,0,1,0,1] },pv,.int .i64 16,.string { data:=#[107,101,121] },.slice (some ⟨W.heap.size,0,none⟩) 1 1] (W.alloc (.cells #[iv] 22)) _:=ee lKey (by decide) (by decide) 16 (by decide)
 have en:∀ pv iv W,Below w.heap.size w W→BytesIn W pv 32 (csN s)→BytesIn W iv 65 (cxN m info)→Calls Tryz.prog 28 #[.string { data:=#[72,80,75,69,0,32,0,1,0,1] },pv,.int .i64 12,.string { data:=#[98,97,115,101,95,110,111,110,99,101] },.slice (some ⟨W.heap.size,0,none⟩) 1 1] (W.alloc (.cells #[iv] 22)) _:=ee lBn (by decide) (by decide) 12 (by decide)
 have ex:∀ pv iv W,Below w.heap.size w W→BytesIn W pv 32 (csN s)→BytesIn W iv 65 (cxN m info)→Calls Tryz.prog 28 #[.string { data:=#[72,80,75,69,0,32,0,1,0,1] },pv,.int .i64 32,.string { data:=#[101,120,112] },.slice (some ⟨W.heap.size,0,none⟩) 1 1] (W.alloc (.cells #[iv] 22)) _:=ee lExp (by decide) (by decide) 32 (by decide)
 clear ee
 rw [hW0] at xp
 generalize lxN lAll 0 lZ lPsk 0 lZ=P1 at xp hj
 generalize lxN lAll 0 lZ lInf m info=P2 at xi hj
 have hS:lxN lAll 32 s lSecr 0 lZ=csN s:=rfl
 rw [hS] at xs
 clear hS
 generalize csN s=S at xs ek en ex
 generalize cxN m info=C at hj ek en ex
 generalize ckN lKey 16 s m info=Y1 at ek ⊢
 generalize ckN lBn 12 s m info=Y2 at en ⊢
 generalize ckN lExp 32 s m info=Y3 at ex ⊢
 have g0:w.heap.size≤w.heap.size:=Nat.le_refl _
 rw [hW0] at b0 r0 q0
 clear hcl hcs hv hu hT hW0
 go_enter Tryz.func39,Tryz.ntmps39
 go_upto_region 2 with (first
  | (go_at_call 29;refine xp.mono ?_;clear xp;rintro e w1 ⟨k1,rfl,q1,h1⟩;(have b1:=below_next b0 h1);(replace q0:=q0.keep h1);(replace r0:=r0.still h1);(have y1:=xi w1 b1);(have d1:Below w1.heap.size w1 (w1.alloc (.cells #[.slice x2 m c2] 22)):=(Below.refl _ _).alloc (Nat.le_refl _) _);clear xi h1 b0)
  | (go_at_call 29;refine y1.mono ?_;clear y1;rintro e w2 ⟨k2,rfl,q2,h2⟩;(replace h2:=below_next d1 h2);(have b2:=below_next b1 h2);(replace q0:=q0.keep h2);(replace q1:=q1.keep h2);(replace r0:=r0.still h2);(have j2:=hj w2 _ _ _ q0 q1 q2);(obtain ⟨z1,d1,e1,-,-,-⟩:=q1.src);(obtain ⟨z2,d2,e2,-,-,-⟩:=q2.src);subst e1;subst e2;clear hj q0 q1 q2 h2 b1)
  | (go_at_call 61;refine j2.mono ?_;clear j2;rintro e w3 ⟨k3,rfl,c3,h3⟩;(have b3:=below_next b2 h3);(replace r0:=r0.still h3);(have y3:=xs w3 b3);clear xs h3 b2))
 go_upto_region 3 with (go_at_call 29;refine y3.mono ?_;clear y3;rintro e w4 ⟨k4,rfl,s4,h4⟩;(have b4:=below_next b3 h4);(replace r0:=r0.still h4);(replace c3:=c3.keep h4);(have y4:=ek k4 k3 w4 b4 s4 c3);(obtain ⟨z3,d3,e3,-,-,-⟩:=c3.src);subst e3;clear ek h4 b3)
 go_wp2_with (first
  | (go_at_call 28;refine y4.mono ?_;clear y4;rintro e w5 ⟨k5,rfl,⟨g5,rfl,hg,t5⟩,h5⟩;(have l5:g5≠w.heap.size:=Nat.ne_of_gt (Nat.lt_of_lt_of_le r0.lt hg));clear hg;(have b5:=below_next b4 h5);(replace r0:=r0.still h5);(replace c3:=c3.keep h5);(replace s4:=s4.keep h5);(have y5:=en k4 _ w5 b5 s4 c3);clear en h5 b4)
  | (go_at_call 28;refine y5.mono ?_;clear y5;rintro e w6 ⟨k6,rfl,⟨g6,rfl,hg,t6⟩,h6⟩;(have l6:g6≠w.heap.size:=Nat.ne_of_gt (Nat.lt_of_lt_of_le r0.lt hg));clear hg;(have b6:=below_next b5 h6);(replace r0:=r0.still h6);(replace c3:=c3.keep h6);(replace s4:=s4.keep h6);(replace t5:=t5.stay (by decide) h6);(have y6:=ex k4 _ w6 b6 s4 c3);clear ex h6 b5)
  | (go_at_call 28;refine y6.mono ?_;clear y6;rintro e w7 ⟨k7,rfl,⟨g7,rfl,hg,t7⟩,h7⟩;(have l7:g7≠w.heap.size:=Nat.ne_of_gt (Nat.lt_of_lt_of_le r0.lt hg));clear hg;(have b7:=below_next b6 h7);(replace r0:=r0.still h7);(replace t5:=t5.stay (by decide) h7);(replace t6:=t6.stay (by decide) h7);(have th:w7.there w.heap.size 0 (#[.slice (some ⟨g5,0,none⟩) 16 16,.slice (some ⟨g6,0,none⟩) 12 12,.slice (some ⟨g7,0,none⟩) 32 32]:Array Value).size:=r0.there);clear h7 b6 c3 s4)
  | (with_reducible (refine id (?_:wpList _ _ _ _ _ _));refine wpList_store_mid rfl 52 _ _ rfl w.heap.size 0 #[.slice (some ⟨g5,0,none⟩) 16 16,.slice (some ⟨g6,0,none⟩) 12 12,.slice (some ⟨g7,0,none⟩) 32 32] rfl rfl th (infoKs _ _ _) (oneKs _ _ _ _ _ _ _ _ _) ?_))
 (try simp only [Exit.inBlock,Exit.then])
 exact bodyPost_ret (results_keys _ _ w.heap.size _ _ _ rfl (r0.stored [.slice (some ⟨g5,0,none⟩) 16 16,.slice (some ⟨g6,0,none⟩) 12 12,.slice (some ⟨g7,0,none⟩) 32 32] rfl)) rfl ⟨g5,g6,g7,rfl,t5.farCells l5 0 _,t6.farCells l6 0 _,t7.farCells l7 0 _,below_setCells (Nat.le_refl _) _ _ _ b7⟩
end Go.Proofs.YtcgkajlehdgpoaaGreatDoor
namespace Go.Proofs.YtcgkajlehdgpoaaGreatDoor
open Go.RowKit
set_option maxHeartbeats 1000000 in
theorem double_any (x:Nat) (hx:x<256) (w:World) :
 Calls Tryz.prog 166 #[.int .u8 x] w fun e w'=>e = .returned (.int .u8 (dbN x))∧w'=w:=by
 have hq:=u8_xor_nat (x*2%256) (x / 128*27) (by omega) (by omega)
 have e:dbN x=(x*2%256) ^^^ (x / 128*27):=rfl
 rw [←e] at hq
 replace hq:bits .xor .u8 ((x:Int)*2%256) ((x:Int) / 128*27)=((dbN x:Nat):Int):=hq
 generalize dbN x=y at *
 clear e
 go_enter Tryz.func166,Tryz.ntmps166
 go_wp2
 go_ret
 exact ⟨rfl,rfl⟩
theorem two_new (X Y:Nat→Nat) (w:World) (L:Array Value) (hL:∀ j,j<16→L[j]? = some (.int .u8 (Y j))) (t u:TypeId):∃ W,(w.alloc (.cells (ints .u8 16 X).toArray t)).alloc (.cells L u)=W∧W.heap.size=w.heap.size+1+1∧Below w.heap.size w W∧RowAt .u8 W w.heap.size 0 16 X∧RowAt .u8 W (w.heap.size+1) 0 16 Y:=by
 refine ⟨_,rfl,by simp,((Below.refl _ _).alloc (Nat.le_refl _) _).alloc (by simp) _,(RowAt.box .u8 w 16 X t).alloc (by simp) _,?_⟩
 have:=RowAt.fresh (K := .u8) (w:=w.alloc (.cells (ints .u8 16 X).toArray t)) (t:=u) hL
 rwa [World.size_alloc] at this
theorem zb16:∀ j,j<16→(zb 16)[j]? = some (.int .u8 ((fun _=>0:Nat→Nat) j)):=fun j hj=>zb_at 16 j hj
theorem ints16 (X:Nat→Nat):∀ j,j<16→(ints .u8 16 X).toArray[j]? = some (.int .u8 (X j)):=fun j hj=>by rw [List.getElem?_toArray];exact ints_at _ _ _ j hj
def pr (Z X:Nat→Nat) (k j:Nat):Nat:=if j<k then Z j else X j
theorem pr_at (Z X:Nat→Nat) (k:Nat):pr Z X k k=X k:=if_neg (Nat.lt_irrefl k)
theorem pr_full (Z X:Nat→Nat) {n j:Nat} (h:j<n):pr Z X n j=Z j:=if_pos h
theorem pr_step (Z X:Nat→Nat) (k j:Nat):upd (pr Z X k) k (Z k) j=pr Z X (k+1) j:=by
 unfold upd pr
 by_cases e:j=k
 · subst e;rw [if_pos rfl,if_pos (by omega)]
 · rw [if_neg e]
   by_cases e2:j<k
   · rw [if_pos e2,if_pos (by omega)]
   · rw [if_neg e2,if_neg (by omega)]
theorem RowAt.next {w:World} {g n k:Nat} {Z X:Nat→Nat} (h:RowAt .u8 w g 0 n (pr Z X k)) (hk:k<n) {v:Int} (hv:v=(Z k:Int)):RowAt .u8 (w.setCell ⟨g,k,none⟩ (.int .u8 v)) g 0 n (pr Z X (k+1)):=by
 have hs:=h.set (i:=k) hk (v:=v) (u:=Z k) hv
 rw [Nat.zero_add] at hs
 exact hs.congr (fun j _=>pr_step Z X k j)
set_option maxRecDepth 20000 in
set_option maxHeartbeats 2000000 in
theorem kplus_any (X Y:Nat→Nat) (hX:B16 X) (hY:B16 Y) (w:World) :
 Calls Tryz.prog 140 #[sqV X,sqV Y] w fun e w'=>e = .returned (sqV (fun j=>X j ^^^ Y j))∧Below w.heap.size w w':=by
 have hz:=zeroS
 have hi3:=infoS Y
 obtain ⟨V,hV,hVs,hbV,hA0,hB0⟩:=two_new X Y w (ints .u8 16 Y).toArray (ints16 Y) 169 169
 obtain ⟨W,hW⟩:∃ W,W=V.alloc (.cells (zb 16) 169):=⟨_,rfl⟩
 have hbW:Below w.heap.size w W:=by rw [hW];exact hbV.alloc (by omega) _
 have hA:RowAt .u8 W w.heap.size 0 16 X:=by rw [hW];exact hA0.alloc (by omega) _
 have hB:RowAt .u8 W (w.heap.size+1) 0 16 Y:=by rw [hW];exact hB0.alloc (by omega) _
 have hC:RowAt .u8 W (w.heap.size+1+1) 0 16 (fun _=>0):=by rw [hW,←hVs];exact RowAt.zero V 16 _
 rw [←hV] at hW
 have HW:=Hid.mk' hW
 have hBr:=hB.range
 have hix:=fun k hk=>index_u8 Tryz.underlying169 Y k hk .i64
 unfold sqV
 obtain ⟨Z,hZ⟩:∃ Z:Nat→Nat,Z=fun j=>X j ^^^ Y j:=⟨_,rfl⟩
 rw [←hZ]
 have HZ:=Hid.mk' hZ
 clear hW hV hZ hA0 hB0 hbV hVs hB
 go_enter Tryz.func140,Tryz.ntmps140
 go_wp2_with (first
  | (rw [←HW.out];refine wpList_load_mid rfl 169 _ rfl (w.heap.size+1) 0 rfl (ints .u8 16 Y) _ hBr Tryz.underlying169 rfl hi3 ?_))
 go_loopw [8] (fun i wr=>∃ k:Nat,k≤16∧i = .int .i64 k∧RowAt .u8 wr w.heap.size 0 16 (pr Z X k)∧RowAt .u8 wr (w.heap.size+1+1) 0 16 (fun _=>0)∧Below w.heap.size w wr) (fun i _=>16 - (intOf i).toNat)
 case atStart=>exact ⟨0,Nat.zero_le _,rfl,hA,hC,hbW⟩
 case round =>
  clear hA hC hbW hBr hz
  obtain ⟨k,hk,rfl,hA,hC,hb⟩:=hrel
  by_cases hlt:k<16
  · obtain ⟨rk,fk⟩:=hA k hlt
    rw [Nat.zero_add] at rk fk
    have hi:=hix k hlt
    have hq:=u8_xor_nat (X k) (Y k) (hX k hlt) (hY k hlt)
    rw [pr_at] at rk
    have ez:((X k ^^^ Y k:Nat):Int)=(Z k:Int):=by rw [HZ.out]
    rw [ez] at hq
    have hs:=hA.next hlt (v:=(Z k:Int)) rfl
    clear hix ez
    go_wp2_with (rw [hi])
    go_roundw
    case rel=>exact ⟨k+1,by omega,by go_num,hs,hC.far (by show w.heap.size≠w.heap.size+1+1;omega) _,hb.setCell (Nat.le_refl _) _⟩
    case measure=>simp [intOf];omega
  · obtain rfl:k=16:=by omega
    have hA':RowAt .u8 wr w.heap.size 0 16 Z:=hA.congr (fun j hj=>pr_full Z X hj)
    have hi1:=infoS Z
    have hi2:=infoSA Z
    have ho:=oneU 16 Z
    have hth:wr.there (w.heap.size+1+1) 0 (ints .u8 16 Z).toArray.size:=by rw [ints_size];exact hC.there
    go_wp2_with (first
     | (refine wpList_load_mid rfl 169 _ rfl w.heap.size 0 rfl (ints .u8 16 Z) _ hA'.range Tryz.underlying169 rfl hi1 ?_)
     | (refine wpList_store_mid rfl 169 _ _ rfl (w.heap.size+1+1) 0 (ints .u8 16 Z).toArray rfl rfl hth hi2 ho ?_))
    (try simp only [Exit.inBlock,Exit.then])
    refine bodyPost_ret (results_cell_mid Tryz.results140 _ _ (w.heap.size+1+1) 0 (ints .u8 16 Z) _ rfl (World.rangeAt_setCells_same _ _ _ _ (by rw [ints_len];exact hC.there)) Tryz.underlying169 rfl hi1) rfl ⟨rfl,?_⟩
    exact below_setCells (by omega) _ _ _ hb
end Go.Proofs.YtcgkajlehdgpoaaGreatDoor
namespace Go.Proofs.YtcgkajlehdgpoaaGreatDoor
open Go.RowKit
def fit16 (n:Nat) (bs:Nat→Nat):Nat→Nat:=over (fun _=>0) 0 (Nat.min n 16) bs
theorem fit16_full (bs:Nat→Nat) {j:Nat} (h:j<16):fit16 16 bs j=bs j:=by
 unfold fit16 over
 rw [if_pos ⟨Nat.zero_le _,by rw [show Nat.min 16 16=16 from rfl];omega⟩,Nat.sub_zero]
set_option maxRecDepth 20000 in
set_option maxHeartbeats 2000000 in
theorem squareOf_any (v:Value) (n:Nat) (bs:Nat→Nat) (w:World) (hv:BytesIn w v n bs) :
 Calls Tryz.prog 139 #[v] w fun e w'=>e = .returned (sqV (fit16 n bs))∧Below w.heap.size w w':=by
 have hz:=zeroS
 have hsz:(Tryz.prog.info? 5).map (·.size)=some 1:=by kernel_rfl
 obtain ⟨xo,cx,rfl,-,-,hsrc⟩:=hv.src
 obtain ⟨W,hW⟩:∃ W,W=(w.alloc (.cells (zb 16) 169)).alloc (.cells (zb 16) 169):=⟨_,rfl⟩
 have hbW:Below w.heap.size w W:=by rw [hW];exact ((Below.refl _ _).alloc (Nat.le_refl _) _).alloc (by simp) _
 have hA:RowAt .u8 W w.heap.size 0 16 (fun _=>0):=by rw [hW];exact (RowAt.zero w 16 _).alloc (by simp) _
 have hB:RowAt .u8 W (w.heap.size+1) 0 16 (fun _=>0):=by
  have:=RowAt.zero (w.alloc (.cells (zb 16) 169)) 16 169
  rw [World.size_alloc] at this
  rw [hW];exact this
 have src:=hsrc W hbW
 have HW:=Hid.mk' hW
 have hth:=hB.there
 obtain ⟨m,hm⟩:∃ m,m=Nat.min n 16:=⟨_,rfl⟩
 have hR:=hB.splice 0 m bs (by rw [hm,Nat.zero_add];exact Nat.min_le_right _ _)
 rw [Nat.zero_add] at hR
 have eR:fit16 n bs=over (fun _=>0) 0 m bs:=by rw [hm];rfl
 rw [eR]
 generalize over (fun _=>0) 0 m bs=Z at *
 have hA':RowAt .u8 (W.setCells (w.heap.size+1) 0 (ints .u8 m bs)) w.heap.size 0 16 (fun _=>0):=hA.farCells (by omega) _ _
 have hb':Below w.heap.size w (W.setCells (w.heap.size+1) 0 (ints .u8 m bs)):=below_setCells (by omega) _ _ _ hbW
 obtain ⟨V,hV⟩:∃ V,V=W.setCells (w.heap.size+1) 0 (ints .u8 m bs):=⟨_,rfl⟩
 have HV:=Hid.mk' hV
 rw [←hV] at hR hA' hb'
 have hi1:=infoS Z
 have hi2:=infoSA Z
 have ho:=oneU 16 Z
 have hth2:V.there w.heap.size 0 (ints .u8 16 Z).toArray.size:=by rw [ints_size];exact hA'.there
 have hrg:=hR.range
 unfold sqV
 have Hm:=Hid.mk' hm
 clear hW hV hA hB hv hsrc eR hR hm
 go_enter Tryz.func139,Tryz.ntmps139
 go_wp2_with (first
  | (rw [←HW.out];refine wpList_copy_bytes rfl _ _ 22 22 rfl 5 Tryz.underlying22 hsz (w.heap.size+1) 0 16 16 xo n cx rfl rfl m bs src Hm.out hth ?_;rw [←HV.out])
  | (refine wpList_load_mid rfl 169 _ rfl (w.heap.size+1) 0 rfl (ints .u8 16 Z) _ hrg Tryz.underlying169 rfl hi1 ?_)
  | (refine wpList_store_mid rfl 169 _ _ rfl w.heap.size 0 (ints .u8 16 Z).toArray rfl rfl hth2 hi2 ho ?_))
 (try simp only [Exit.inBlock,Exit.then])
 refine bodyPost_ret (results_cell_mid Tryz.results139 _ _ w.heap.size 0 (ints .u8 16 Z) _ rfl (World.rangeAt_setCells_same _ _ _ _ (by rw [ints_len];exact hA'.there)) Tryz.underlying169 rfl hi1) rfl ⟨rfl,?_⟩
 exact below_setCells (Nat.le_refl _) _ _ _ hb'
set_option maxRecDepth 20000 in
set_option maxHeartbeats 2000000 in
theorem boxed_any (X:Nat→Nat) (hX:B16 X) (w:World) :
 Calls Tryz.prog 142 #[sqV X] w fun e w'=>e = .returned (sqV (thrN boxN X))∧Below w.heap.size w w':=by
 have hz:=zeroS
 have hzB:=zeroB
 have cb:=boxes_any
 have hi3:=infoS X
 have hj2:=infoBA boxN
 have hjo:=oneU 256 boxN
 have hix:=fun k hk=>index_u8 Tryz.underlying169 X k hk .i64
 obtain ⟨W,hW,hWs,hbW,hA,hC⟩:=two_new X (fun _=>0) w (zb 16) zb16 169 169
 have HW:=Hid.mk' hW.symm
 have cbW:=cb W
 obtain ⟨Z,hZ⟩:∃ Z:Nat→Nat,Z=thrN boxN X:=⟨_,rfl⟩
 have HZ:∀ j,boxN (X j)=Z j:=fun j=>by rw [hZ];rfl
 rw [←hZ]
 generalize boxN=F at *
 unfold sqV
 clear hW hZ cb
 go_enter Tryz.func142,Tryz.ntmps142
 go_upto_region 2 with (first
  | (rw [←HW.out];go_at_call 167;refine cbW.mono ?_;clear cbW;rintro e w1 ⟨rfl,hb1⟩;(have hT1:=RowAt.zero w1 256 201);(have hA1:=(hA.below hb1 (by omega)).alloc (by have:=hb1.size;omega) (.cells (zb 256) 201));(have hC1:=(hC.below hb1 (by omega)).alloc (by have:=hb1.size;omega) (.cells (zb 256) 201));(have b1:Below w.heap.size w (w1.alloc (.cells (zb 256) 201)):=(hbW.trans (hb1.mono (by omega))).alloc (by have:=hb1.size;omega) _);(have hth:(w1.alloc (.cells (zb 256) 201)).there w1.heap.size 0 (ints .u8 256 F).toArray.size:=by rw [ints_size];exact hT1.there);have hs1:=hb1.size;clear hb1 hA hC hbW)
  | (refine wpList_store_mid rfl 201 _ _ rfl w1.heap.size 0 (ints .u8 256 F).toArray rfl rfl hth hj2 hjo ?_))
 dsimp only [Act.put]
 have hT2:=hT1.stored (L:=F)
 have hA2:=hA1.farCells (show w.heap.size≠w1.heap.size by omega) 0 (ints .u8 256 F)
 have hC2:=hC1.farCells (show w.heap.size+1≠w1.heap.size by omega) 0 (ints .u8 256 F)
 have b2:=below_setCells (show w.heap.size≤w1.heap.size by omega) (ints .u8 256 F) 0 _ b1
 have hg:w.heap.size+1<w1.heap.size:=by omega
 generalize (w1.alloc (.cells (zb 256) 201)).setCells w1.heap.size 0 (ints .u8 256 F)=V at *
 generalize w1.heap.size=g at *
 have hAr:=hA2.range
 clear hT1 hA1 hC1 b1 hth hs1 hzB hz hj2 hjo HW
 go_wp2_with (first
  | (refine wpList_load_mid rfl 169 _ rfl w.heap.size 0 rfl (ints .u8 16 X) _ hAr Tryz.underlying169 rfl hi3 ?_))
 clear hAr
 go_loopw [8] (fun i wr=>∃ k:Nat,k≤16∧i = .int .i64 k∧RowAt .u8 wr w.heap.size 0 16 (pr Z X k)∧RowAt .u8 wr g 0 256 F∧RowAt .u8 wr (w.heap.size+1) 0 16 (fun _=>0)∧Below w.heap.size w wr) (fun i _=>16 - (intOf i).toNat)
 case atStart=>exact ⟨0,Nat.zero_le _,rfl,hA2,hT2,hC2,b2⟩
 case round =>
  clear hA2 hT2 hC2 b2
  obtain ⟨k,hk,rfl,hA,hT,hC,hb⟩:=hrel
  by_cases hlt:k<16
  · obtain ⟨rk,fk⟩:=hA k hlt
    rw [Nat.zero_add] at rk fk
    rw [pr_at] at rk
    have hi:=hix k hlt
    obtain ⟨rt,-⟩:=hT (X k) (hX k hlt)
    rw [Nat.zero_add,HZ] at rt
    have hxk:=hX k hlt
    have hs:=hA.next hlt (v:=(Z k:Int)) rfl
    clear hix
    go_wp2_with (rw [hi])
    go_roundw
    case rel=>exact ⟨k+1,by omega,by go_num,hs,hT.far (by show w.heap.size≠g;omega) _,hC.far (by show w.heap.size≠w.heap.size+1;omega) _,hb.setCell (Nat.le_refl _) _⟩
    case measure=>simp [intOf];omega
  · obtain rfl:k=16:=by omega
    have hA':RowAt .u8 wr w.heap.size 0 16 Z:=hA.congr (fun j hj=>pr_full Z X hj)
    have hi1:=infoS Z
    have hi2:=infoSA Z
    have ho:=oneU 16 Z
    have hth:wr.there (w.heap.size+1) 0 (ints .u8 16 Z).toArray.size:=by rw [ints_size];exact hC.there
    go_wp2_with (first
     | (refine wpList_load_mid rfl 169 _ rfl w.heap.size 0 rfl (ints .u8 16 Z) _ hA'.range Tryz.underlying169 rfl hi1 ?_)
     | (refine wpList_store_mid rfl 169 _ _ rfl (w.heap.size+1) 0 (ints .u8 16 Z).toArray rfl rfl hth hi2 ho ?_))
    (try simp only [Exit.inBlock,Exit.then])
    refine bodyPost_ret (results_cell_mid Tryz.results142 _ _ (w.heap.size+1) 0 (ints .u8 16 Z) _ rfl (World.rangeAt_setCells_same _ _ _ _ (by rw [ints_len];exact hC.there)) Tryz.underlying169 rfl hi1) rfl ⟨rfl,?_⟩
    exact below_setCells (by omega) _ _ _ hb
set_option maxRecDepth 20000 in
set_option maxHeartbeats 2000000 in
theorem turned_any (X:Nat→Nat) (w:World) :
 Calls Tryz.prog 143 #[sqV X] w fun e w'=>e = .returned (sqV (tuN X))∧Below w.heap.size w w':=by
 have hz:=zeroS
 obtain ⟨V,hV,hVs,hbV,hA0,hB0⟩:=two_new X (fun _=>0) w (zb 16) zb16 169 169
 obtain ⟨W,hW⟩:∃ W,W=V.alloc (.cells (zb 16) 169):=⟨_,rfl⟩
 have hbW:Below w.heap.size w W:=by rw [hW];exact hbV.alloc (by omega) _
 have hA:RowAt .u8 W w.heap.size 0 16 X:=by rw [hW];exact hA0.alloc (by omega) _
 have hB:RowAt .u8 W (w.heap.size+1) 0 16 (fun _=>0):=by rw [hW];exact hB0.alloc (by omega) _
 have hC:RowAt .u8 W (w.heap.size+1+1) 0 16 (fun _=>0):=by rw [hW,←hVs];exact RowAt.zero V 16 _
 rw [←hV] at hW
 have HW:=Hid.mk' hW
 unfold sqV
 obtain ⟨Z,hZ⟩:∃ Z:Nat→Nat,Z=tuN X:=⟨_,rfl⟩
 have HZ:∀ j,X ((j+4*(j%4))%16)=Z j:=fun j=>by rw [hZ];rfl
 rw [←hZ]
 clear hW hV hZ hA0 hB0 hbV hVs
 go_enter Tryz.func143,Tryz.ntmps143
 go_wp2
 rw [←HW.out]
 go_loopw [5] (fun i wr=>∃ k:Nat,k≤16∧i = .int .i64 k∧RowAt .u8 wr w.heap.size 0 16 X∧RowAt .u8 wr (w.heap.size+1) 0 16 (fun _=>0)∧RowAt .u8 wr (w.heap.size+1+1) 0 16 (pr Z (fun _=>0) k)∧Below w.heap.size w wr) (fun i _=>16 - (intOf i).toNat)
 case atStart=>exact ⟨0,Nat.zero_le _,rfl,hA,hB,hC,hbW⟩
 case round =>
  clear hA hB hC hbW hz
  obtain ⟨k,hk,rfl,hA,hB,hC,hb⟩:=hrel
  by_cases hlt:k<16
  · obtain ⟨rk,fk⟩:=hC k hlt
    rw [Nat.zero_add] at rk fk
    obtain ⟨rx,-⟩:=hA ((k+4*(k%4))%16) (by omega)
    rw [Nat.zero_add,HZ] at rx
    have q1:(((k:Int)+4*((k:Int)%4))%16).toNat=(k+4*(k%4))%16:=by omega
    have q2:(0:Int)≤((k:Int)+4*((k:Int)%4))%16∧((k:Int)+4*((k:Int)%4))%16<16:=by omega
    have hs:=hC.next hlt (v:=(Z k:Int)) rfl
    clear HZ
    go_wp2
    go_roundw
    case rel=>exact ⟨k+1,by omega,by go_num,hA.far (by show w.heap.size+1+1≠w.heap.size;omega) _,hB.far (by show w.heap.size+1+1≠w.heap.size+1;omega) _,hs,hb.setCell (by show w.heap.size≤w.heap.size+1+1;omega) _⟩
    case measure=>simp [intOf];omega
  · obtain rfl:k=16:=by omega
    have hA':RowAt .u8 wr (w.heap.size+1+1) 0 16 Z:=hC.congr (fun j hj=>pr_full Z _ hj)
    have hi1:=infoS Z
    have hi2:=infoSA Z
    have ho:=oneU 16 Z
    have hth:wr.there (w.heap.size+1) 0 (ints .u8 16 Z).toArray.size:=by rw [ints_size];exact hB.there
    go_wp2_with (first
     | (refine wpList_load_mid rfl 169 _ rfl (w.heap.size+1+1) 0 rfl (ints .u8 16 Z) _ hA'.range Tryz.underlying169 rfl hi1 ?_)
     | (refine wpList_store_mid rfl 169 _ _ rfl (w.heap.size+1) 0 (ints .u8 16 Z).toArray rfl rfl hth hi2 ho ?_))
    (try simp only [Exit.inBlock,Exit.then])
    refine bodyPost_ret (results_cell_mid Tryz.results143 _ _ (w.heap.size+1) 0 (ints .u8 16 Z) _ rfl (World.rangeAt_setCells_same _ _ _ _ (by rw [ints_len];exact hB.there)) Tryz.underlying169 rfl hi1) rfl ⟨rfl,?_⟩
    exact below_setCells (by omega) _ _ _ hb
end Go.Proofs.YtcgkajlehdgpoaaGreatDoor
namespace Go.Proofs.YtcgkajlehdgpoaaGreatDoor
open Go.RowKit
theorem mx_idx (k:Nat) (hk:k<16):∃ s:Nat,s=k - k%4∧s+3<16∧(k:Int) - (k:Int)%4=(s:Int)∧∃ n:Nat,n<16∧n=s+(k+1)%4∧(s:Int)+((k:Int)+1)%4=(n:Int) :=
 ⟨k - k%4,rfl,by omega,by omega,k - k%4+(k+1)%4,by omega,rfl,by omega⟩
set_option maxRecDepth 20000 in
set_option maxHeartbeats 4000000 in
theorem mixed_any (X:Nat→Nat) (hX:B16 X) (w:World) :
 Calls Tryz.prog 144 #[sqV X] w fun e w'=>e = .returned (sqV (mxN X))∧Below w.heap.size w w':=by
 have hz:=zeroS
 have hi3:=infoS X
 have hix:=fun k hk=>index_u8 Tryz.underlying169 X k hk .i64
 obtain ⟨V,hV,hVs,hbV,hA0,hB0⟩:=two_new X (fun _=>0) w (zb 16) zb16 169 169
 obtain ⟨W,hW⟩:∃ W,W=V.alloc (.cells (zb 16) 169):=⟨_,rfl⟩
 have hbW:Below w.heap.size w W:=by rw [hW];exact hbV.alloc (by omega) _
 have hA:RowAt .u8 W w.heap.size 0 16 X:=by rw [hW];exact hA0.alloc (by omega) _
 have hB:RowAt .u8 W (w.heap.size+1) 0 16 (fun _=>0):=by rw [hW];exact hB0.alloc (by omega) _
 have hC:RowAt .u8 W (w.heap.size+1+1) 0 16 (fun _=>0):=by rw [hW,←hVs];exact RowAt.zero V 16 _
 rw [←hV] at hW
 have HW:=Hid.mk' hW
 have hAr:=hA.range
 unfold sqV
 obtain ⟨Z,hZ⟩:∃ Z:Nat→Nat,Z=mxN X:=⟨_,rfl⟩
 rw [←hZ]
 have HZ:=Hid.mk' hZ
 clear hW hV hZ hA0 hB0 hbV hVs
 go_enter Tryz.func144,Tryz.ntmps144
 go_wp2_with (first
  | (rw [←HW.out];refine wpList_load_mid rfl 169 _ rfl w.heap.size 0 rfl (ints .u8 16 X) _ hAr Tryz.underlying169 rfl hi3 ?_))
 go_loopw [9] (fun i wr=>∃ k:Nat,k≤16∧i = .int .i64 k∧RowAt .u8 wr w.heap.size 0 16 X∧RowAt .u8 wr (w.heap.size+1) 0 16 (fun _=>0)∧RowAt .u8 wr (w.heap.size+1+1) 0 16 (pr Z (fun _=>0) k)∧Below w.heap.size w wr) (fun i _=>16 - (intOf i).toNat)
 case atStart=>exact ⟨0,Nat.zero_le _,rfl,hA,hB,hC,hbW⟩
 case round =>
  clear hA hB hC hbW hz hAr
  obtain ⟨k,hk,rfl,hA,hB,hC,hb⟩:=hrel
  by_cases hlt:k<16
  · have ek:Z k=mx1 (X (k - k%4)) (X (k - k%4+1)) (X (k - k%4+2)) (X (k - k%4+3)) (X k) (X (k - k%4+(k+1)%4)):=by rw [HZ.out];rfl
    obtain ⟨s,hs,hs3,es,n,hn,hn',en⟩:=mx_idx k hlt
    rw [←hs,←hn'] at ek
    have hi:=hix k hlt
    obtain ⟨rk,fk⟩:=hC k hlt
    obtain ⟨r0,-⟩:=hA s (by omega)
    obtain ⟨r1,-⟩:=hA (s+1) (by omega)
    obtain ⟨r2,-⟩:=hA (s+2) (by omega)
    obtain ⟨r3,-⟩:=hA (s+3) (by omega)
    obtain ⟨r4,-⟩:=hA n hn
    rw [Nat.zero_add] at rk fk r0 r1 r2 r3 r4
    have b0:=hX s (by omega)
    have b1:=hX (s+1) (by omega)
    have b2:=hX (s+2) (by omega)
    have b3:=hX (s+3) (by omega)
    have b4:=hX n hn
    have bk:=hX k hlt
    have hst:=hC.drew.next hlt (v:=(Z k:Int)) rfl
    generalize X s=x0 at *
    generalize X (s+1)=x1 at *
    generalize X (s+2)=x2 at *
    generalize X (s+3)=x3 at *
    generalize X n=x4 at *
    generalize X k=x at *
    have q1:=u8_xor_nat x0 x1 b0 b1
    have q2:=u8_xor_nat (x0 ^^^ x1) x2 (xor_byte b0 b1) b2
    have q3:=u8_xor_nat (x0 ^^^ x1 ^^^ x2) x3 (xor_byte (xor_byte b0 b1) b2) b3
    have hsum:=xor_byte (xor_byte (xor_byte b0 b1) b2) b3
    have q4:=u8_xor_nat x (x0 ^^^ x1 ^^^ x2 ^^^ x3) bk hsum
    have q5:=u8_xor_nat x x4 bk b4
    have hxy:=xor_byte bk b4
    have cd:=double_any (x ^^^ x4) hxy
    have q6:=u8_xor_nat (x ^^^ (x0 ^^^ x1 ^^^ x2 ^^^ x3)) (dbN (x ^^^ x4)) (xor_byte bk hsum) (db_all _ hxy).2.2.2.2.1
    rw [show x ^^^ (x0 ^^^ x1 ^^^ x2 ^^^ x3) ^^^ dbN (x ^^^ x4)=Z k from ek.symm] at q6
    generalize dbN (x ^^^ x4)=d at *
    generalize x ^^^ (x0 ^^^ x1 ^^^ x2 ^^^ x3)=y at *
    generalize x0 ^^^ x1 ^^^ x2 ^^^ x3=s3 at *
    generalize x0 ^^^ x1 ^^^ x2=s2 at *
    generalize x0 ^^^ x1=s1 at *
    generalize x ^^^ x4=z at *
    have p1:(((s:Int)+1)).toNat=s+1:=by omega
    have p2:(((s:Int)+2)).toNat=s+2:=by omega
    have p3:(((s:Int)+3)).toNat=s+3:=by omega
    have i1:(0:Int)≤(s:Int)+1∧(s:Int)+1<16:=by omega
    have i2:(0:Int)≤(s:Int)+2∧(s:Int)+2<16:=by omega
    have i3:(0:Int)≤(s:Int)+3∧(s:Int)+3<16:=by omega
    clear hix ek hsum hxy b0 b1 b2 b3 b4 bk hs hn'
    go_wp2_with (rw [hi])
    go_region
    go_wp2_with (go_at_call 166;refine (cd _).mono ?_;clear cd;rintro e w1 ⟨rfl,hw1⟩;subst hw1)
    go_roundw
    case rel=>exact ⟨k+1,by omega,by go_num,hA.drew.far (by show w.heap.size+1+1≠w.heap.size;omega) _,hB.drew.far (by show w.heap.size+1+1≠w.heap.size+1;omega) _,hst,hb.drew.setCell (by show w.heap.size≤w.heap.size+1+1;omega) _⟩
    case measure=>simp [intOf];omega
  · obtain rfl:k=16:=by omega
    have hA':RowAt .u8 wr (w.heap.size+1+1) 0 16 Z:=hC.congr (fun j hj=>pr_full Z _ hj)
    have hi1:=infoS Z
    have hi2:=infoSA Z
    have ho:=oneU 16 Z
    have hth:wr.there (w.heap.size+1) 0 (ints .u8 16 Z).toArray.size:=by rw [ints_size];exact hB.there
    go_wp2_with (first
     | (refine wpList_load_mid rfl 169 _ rfl (w.heap.size+1+1) 0 rfl (ints .u8 16 Z) _ hA'.range Tryz.underlying169 rfl hi1 ?_)
     | (refine wpList_store_mid rfl 169 _ _ rfl (w.heap.size+1) 0 (ints .u8 16 Z).toArray rfl rfl hth hi2 ho ?_))
    (try simp only [Exit.inBlock,Exit.then])
    refine bodyPost_ret (results_cell_mid Tryz.results144 _ _ (w.heap.size+1) 0 (ints .u8 16 Z) _ rfl (World.rangeAt_setCells_same _ _ _ _ (by rw [ints_len];exact hB.there)) Tryz.underlying169 rfl hi1) rfl ⟨rfl,?_⟩
    exact below_setCells (by omega) _ _ _ hb
theorem ints_S {X Y:Nat→Nat} (h:S16 X Y):ints .u8 16 X=ints .u8 16 Y:=ints_congr _ _ _ _ h
theorem sqV_S {X Y:Nat→Nat} (h:S16 X Y):sqV X=sqV Y:=by unfold sqV;rw [ints_S h]
end Go.Proofs.YtcgkajlehdgpoaaGreatDoor
