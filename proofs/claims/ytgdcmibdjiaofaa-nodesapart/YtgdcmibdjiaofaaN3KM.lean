/- What the proof stands on: N3K, N3M, N3V, N3W, N3gL, N3X, N3gP, N3T, N3Y. -/
import Derived.Test.YtgdcmibdjiaofaaBaseM
import Derived.Test.YtgdcmibdjiaofaaN3SM
import Derived.Maps.AppendAt
namespace Go.Proofs.Ytgdcmibdjiaofaa
open Go.RowKit
theorem info_fld:(Try.prog.info? 102).map (fun i=>(i.zero,i.size,i.bytes))=some (some (.agg #[.nilFunc,.nilFunc,.nilFunc]),3,24):=by kernel_rfl
theorem info_parts3 {P:Program} {t:TypeId} {z:Value} {s b:Nat} (h:(P.info? t).map (fun i=>(i.zero,i.size,i.bytes))=some (some z,s,b)):∃ i,P.info? t=some i∧i.zero=some z∧i.size=s∧i.bytes=b:=by
 cases hi:P.info? t with
 | none=>rw [hi] at h;cases h
 | some i=>rw [hi] at h;simp at h;exact ⟨i,rfl,h.1,h.2.1,h.2.2⟩
theorem flat_len (fs:List Fd):(fs.flatMap Fd.cells).length=fs.length*3:=by
 induction fs with
 | nil=>rfl
 | cons f fs ih=>rw [List.flatMap_cons,List.length_append,ih];show 3+_=(fs.length+1)*3;omega
theorem flat_one (fs:List Fd):∀ u∈fs.flatMap Fd.cells,u.oneCell'=true:=by
 intro u hu
 rw [List.mem_flatMap] at hu
 obtain ⟨f,-,hf⟩:=hu
 simp [Fd.cells,clo] at hf
 rcases hf with rfl | rfl | rfl <;> rfl
theorem Rest.grown {w w':World} {g:Nat} (h:w.grownBy w' (some g)):Rest [g] w w':=⟨h.os,h.tape,h.output,h.size,fun k hk hn=>h.block k hk (fun e=>hn (by simpa using e))⟩
theorem FR.news {w:World} {b:Nat} {gs:List Fd} (h:FR w b gs):∀ j u,(gs.flatMap Fd.cells)[j]? = some u→w.cell? ((⟨b,0,none⟩:Addr).add j)=some u:=by
 intro j u hu
 have hj:=(List.getElem?_eq_some_iff.1 hu).1
 rw [flat_len] at hj
 have hk:j / 3<gs.length:=by omega
 have hf:gs[j / 3]? = some gs[j / 3]:=List.getElem?_eq_getElem hk
 have e:j / 3*3+j%3=j:=by omega
 have h1:=flat_at gs (j / 3) _ hf (j%3) (by omega)
 rw [e,hu] at h1
 have h2:=h.at_ (j / 3) _ hf (j%3) u h1.symm
 rw [Addr.add_mid,Nat.zero_add]
 rw [e] at h2
 exact h2
theorem run_app_fl (w:World) (base:Nat) (v:Value) (fs:List Fd) (g:Nat) (hv:v.ownBlock=some g) (hown:FL base w v fs) (b c:Nat) (gs:List Fd) (hg:FR w b gs) (hl:fs.length+gs.length≤1000) (hbase:base≤w.heap.size) :
 ∃ v' w' g',(Builtin.append_ #[74,74] 74 #[v,.slice (some ⟨b,0,none⟩) gs.length c]).run Try.prog w = .ok v' w'∧FL base w' v' (fs ++ gs)∧Rest [g] w w'∧v'.ownBlock=some g'∧(g'=g∨g'=w.heap.size):=by
 obtain ⟨i0,hi,hz0,hz1,hz2⟩:=info_parts3 info_fld
 obtain ⟨v',w',h1,h2,h3,-,h5⟩:=run_append_own_at (P:=Try.prog) w base 74 74 102 i0 _ 3 24 Try.underlying74 hi hz0 hz1 hz2 rfl (by decide) v fs.length _ hown ⟨b,0,none⟩ gs.length c (gs.flatMap Fd.cells) (flat_len gs) hg.news (flat_one gs) (by unfold maxLen;omega) (by omega) hbase
 rw [hv] at h3 h5
 have hf:FL base w' v' (fs ++ gs):=by unfold FL;rw [List.length_append,List.flatMap_append];exact h2
 rcases h5 with h5 | h5
 · exact ⟨v',w',g,h1,hf,Rest.grown h3,h5,.inl rfl⟩
 · exact ⟨v',w',w.heap.size,h1,hf,Rest.grown h3,h5,.inr rfl⟩
theorem wpList_app_fl {w:World} {ops:Array Oper} {rest:List Oper} {o:Oper} {a:Act} {Q:Exit→Act→World→Prop} (hgd:o.guard=none) (s x:Operand)
 (ho:o.op = .call { callee := .builtin .append,args:=#[s,x],argTypes:=#[74,74] }) (hty:o.type=74) {base:Nat} {v:Value} {fs:List Fd} {g:Nat} (hs:a.eval s=v) (hv:v.ownBlock=some g) (hown:FL base w v fs) {b c n:Nat} {gs:List Fd} (hn:n=gs.length) (hx:a.eval x = .slice (some ⟨b,0,none⟩) n c) (hg:FR w b gs) (hl:fs.length+gs.length≤1000) (hbase:base≤w.heap.size)
 (h:∀ v' w' g',FL base w' v' (fs ++ gs)→Rest [g] w w'→v'.ownBlock=some g'→(g'=g∨g'=w.heap.size)→wpList Try.prog ops Q rest (a.put o.dst v') w'):wpList Try.prog ops Q (o :: rest) a w:=by
 subst hn
 refine wpList_plain hgd fun K hK => ?_
 obtain ⟨v',w',g',h1,h2,h3,h4,h5⟩:=run_app_fl w base v fs g hv hown b c gs hg hl hbase
 unfold Oper.wp execOp
 simp only [ho,hty,resolve,invoke,builtin,Sem.run_bind,Sem.run_pure,Result.andThen_ok,List.map_toArray,List.map_cons,List.map_nil,hs,hx,h1]
 exact hK _ _ (h v' w' g' h2 h3 h4 h5)
theorem FL.below {base B:Nat} {w w':World} {g:Nat} {v:Value} {fs:List Fd} (hv:v.ownBlock=some g) (h:FL base w v fs) (hr:Rest [g] w w') (hB:B≤base) (hw:B≤w.heap.size):Below B w w' :=
 hr.below (fun x hx=>by rw [List.mem_singleton] at hx;subst hx;exact Nat.le_trans hB (World.ownsRow.lt h _ hv).1) hw
theorem FR.prefix {w:World} {g:Nat} {fs gs:List Fd} (h:FR w g (fs ++ gs)):FR w g fs:=⟨h.lt,fun k f hk=>h.at_ k f (by rw [List.getElem?_append_left (List.getElem?_eq_some_iff.1 hk).1];exact hk)⟩
theorem FR.of_lit (w:World) (fs:List Fd):FR (w.alloc (.cells (fs.flatMap Fd.cells).toArray 102)) w.heap.size fs:=by
 have r:=RW.fresh w (fs.flatMap Fd.cells) 102
 refine ⟨r.lt,fun k f hk j u hu => ?_⟩
 have hj:j<3:=(List.getElem?_eq_some_iff.1 hu).1
 exact r.cell (by rw [flat_at fs k f hk j hj];exact hu)
theorem wpList_eqnilF {ops:Array Oper} {rest:List Oper} {op:Oper} {a:Act} {w:World} {Q:Exit→Act→World→Prop} (hgd:op.guard=none) (x y:Operand) (t2:TypeId) (ho:op.op = .binOp .eql 74 x y t2) (ad:Addr) (l c:Nat)
 (hx:a.eval x = .slice (some ad) l c) (hy:a.eval y = .slice none 0 0) (h:wpList Try.prog ops Q rest (a.put op.dst (.bool false)) w):wpList Try.prog ops Q (op :: rest) a w :=
 wpList_plain hgd fun K hK=>by
  unfold Oper.wp execOp
  simp only [ho,hx,hy]
  have e:(eqGuard .eql 74 x y (.slice (some ad) l c) (.slice none 0 0)).run Try.prog w = .ok () w:=by
   simp [eqGuard]
  rw [Sem.run_bind,Sem.run_bind,e]
  simp only [Result.andThen_ok]
  rw [run_eql_slice_nil w 74 102 (some ad) l c Try.underlying74]
  exact hK _ _ h
set_option maxRecDepth 20000 in
set_option maxHeartbeats 2000000 in
theorem cloneF_any (b c:Nat) (gs:List Fd) (w:World) (hg:FR w b gs) (hl:gs.length≤100):Calls Try.prog 79 #[.slice (some ⟨b,0,none⟩) gs.length c] w fun e w'=>∃ v g,e = .returned v∧FL w.heap.size w' v gs∧v.ownBlock=some g∧w.heap.size≤g∧Below w.heap.size w w':=by
 have h1:FL w.heap.size (w.alloc (.cells #[] 102)) (.slice (some ⟨w.heap.size,0,none⟩) 0 0) []:=FL.lit w.heap.size w [] (Nat.le_refl _) (by simp)
 have b1:Below w.heap.size w (w.alloc (.cells #[] 102)):=(Below.refl _ _).alloc (Nat.le_refl _) _
 have hg1:=hg.still b1
 obtain ⟨n,hn⟩:∃ n,n=gs.length:=⟨_,rfl⟩
 have Hn:=Hid.mk' hn
 rw [←hn]
 clear hn
 go_enter Try.func79,Try.ntmps79
 go_wp2_with (first
  | (with_reducible (refine id (?_:wpList _ _ _ _ _ _));refine wpList_eqnilF rfl _ _ _ rfl _ _ _ rfl rfl ?_)
  | (at_builtin;refine wpList_app_fl rfl _ _ rfl rfl rfl rfl h1 Hn.out rfl hg1 (by simp;omega) b1.size ?_;intro v2 w2 g2 f2 r2 e2 d2))
 go_ret
 exact ⟨_,rfl,f2,_,e2,(World.ownsRow.lt f2 _ e2).1,b1.trans (FL.below (g:=w.heap.size) rfl h1 r2 (Nat.le_refl _) b1.size)⟩
theorem sliceF (W:World) (g n cap m:Nat) (h:m≤cap):(Instr.sliceAt 74 (.slice (some ⟨g,0,none⟩) n cap) none (some (.int .i64 m)) none).run Try.prog W = .ok (.slice (some ⟨g,0,none⟩) m cap) W:=by
 have h1:Try.prog.underlying 74=some (.slice (Try.prog.elem 74)):=by kernel_rfl
 have h2:Try.prog.elem 74=102:=by kernel_rfl
 have h3:((sizeOf 102).run Try.prog W) = .ok 3 W:=by kernel_rfl
 rw [run_sliceAt_slice W 74 _ _ _ _ h1,run_slice_h W 74 _ n cap h1 .i64 m (by omega) (by omega),h2,h3]
 simp [sliced,Addr.add_mid,Option.map]
theorem exec_appF {o:Oper} {a:Act} {w w':World} {v':Value} (s x:Operand) (ho:o.op = .call { callee := .builtin .append,args:=#[s,x],argTypes:=#[74,74] }) (hty:o.type=74) {sv xv:Value} (hs:a.eval s=sv) (hx:a.eval x=xv) (hrun:(Builtin.append_ #[74,74] 74 #[sv,xv]).run Try.prog w = .ok v' w'):(execOp a.eval o).run Try.prog w = .ok (.value v') w':=by
 simp [execOp,ho,hty,resolve,invoke,builtin,hs,hx,hrun,Result.andThen]
theorem exec_sliceF {o:Oper} {a:Act} {w w':World} {v':Value} (x hi:Operand) (ho:o.op = .slice 74 x none (some hi) none) {xv hv:Value} (hx:a.eval x=xv) (hh:a.eval hi=hv) (hrun:(Instr.sliceAt 74 xv none (some hv) none).run Try.prog w = .ok v' w'):(execOp a.eval o).run Try.prog w = .ok (.value v') w':=by
 simp [execOp,ho,hx,hh,hrun,Result.andThen]
theorem tF {md:Region.Mode} {ops:Array Oper} {Q:Exit→Act→World→Prop} {S:World→Prop} {fuel:Nat} {listed:Array Bool} {a:Act} {w:World} (i:Nat) (hS:S w) {oi:Oper} {g off k:Nat} {X Y Z:Value} (hr:∀ u,S u→u.rangeAt g off [X,Y,Z]) (h:wpAnyH Try.prog md ops Q S fuel (listed.setIfInBounds i true) (a.put oi.dst (.agg #[X,Y,Z])) w) (hi:ops.toList[i]? = some oi:=by rfl) (ho:oi.op = .load 102 (.tmp k):=by rfl)
 (hw:Region.wanted oi (yielded ops a.tmps)=true:=by rfl) (hx:a.eval (.tmp k) = .pointer (some ⟨g,off,none⟩):=by rfl)
 (hQ:∀ c b w,Q (.panic c) (b.put oi.dst (.agg #[X,Y,Z])) w→Q (.panic c) b w:=by exact fun _ _ _ h=>h) (hs:Region.noSelect ops=true:=by kernel_rfl) (hf:Region.free md ops listed i=true:=by kernel_rfl) (hrd:(Region.ready md ops listed).contains i=true:=by kernel_rfl):wpAnyH Try.prog md ops Q S (fuel+1) listed a w :=
 tkH i oi _ hS (yieldsIf_load_mid hw 102 _ ho g off hx [X,Y,Z] _ hr Try.underlying102 rfl fldI) h hQ (at_list hi) hs hf hrd
set_option maxRecDepth 20000 in
set_option maxHeartbeats 2000000 in
theorem unsigned_any (base:Nat) (v:Value) (gs:List Fd) (f:Fd) (w:World) (hv:FL base w v (gs ++ [f])) (hl:gs.length≤90):Calls Try.prog 56 #[v] w fun e w'=>∃ v' g,e = .returned v'∧FL w.heap.size w' v' (gs ++ [unwD f])∧v'.ownBlock=some g∧w.heap.size≤g∧Below w.heap.size w w':=by
 obtain ⟨b,cap,rfl,hb,hc,hm,hr⟩:=hv.read (by simp)
 rw [List.length_append] at hc ⊢
 obtain ⟨i0,c0,i1,c1,i2,c2⟩:=f
 obtain ⟨n,hn⟩:∃ n,n=gs.length:=⟨_,rfl⟩
 have Hn:=Hid.mk' hn
 have e1:((gs.length + [(⟨i0,c0,i1,c1,i2,c2⟩:Fd)].length:Nat):Int)=(n:Int)+1:=by rw [hn];rfl
 obtain ⟨m,hm'⟩:∃ m,m=gs.length + [(⟨i0,c0,i1,c1,i2,c2⟩:Fd)].length:=⟨_,rfl⟩
 rw [←hm'] at hc e1 ⊢
 have em:m=n+1:=by omega
 have EM:=Hid.mk' em
 have e2:IntKind.i64.wrap ((m:Int) - 1)=(n:Int):=by simp only [IntKind.wrap_i64];omega
 have e3:(m:Int) - 1=(n:Int):=by omega
 have ix:(0:Int)≤(n:Int)∧(n:Int)<(m:Int):=by omega
 have rl:w.drew.rangeAt b (n*3) [clo i0 c0,clo i1 c1,clo i2 c2]:=hr.at_ n ⟨i0,c0,i1,c1,i2,c2⟩ (by rw [hn];simp)
 have e4:wrap64 (n:Int)=(n:Int):=by have:=EM.out;unfold wrap64;omega
 have hsl:=sliceF
 clear hn hm' e1 em hv
 go_enter Try.func56,Try.ntmps56
 go_upto_region 2 with (fail)
 rw [e4]
 have bd:Below w.heap.size w w.drew:=(Below.refl _ _).drew
 have hrd:=hr.still bd
 refine wp_region_held_drew (S:=fun u=>Below w.drew.heap.size w.drew u) (by kernel_rfl) (Below.refl _ _) (fun hS => ?_)
 generalize w.drew=V at *
 refine tg 0 hS ?_
 (try simp only [pS])
 refine tg 1 hS ?_
 (try simp only [pS])
 refine tg 2 hS (v := .slice (some ⟨b,0,none⟩) n cap) ?_ (hy:=fun u _=>exec_sliceF (.tmp 7) (.tmp 8) rfl rfl rfl (hsl u b m cap n (by have:=EM.out;omega)))
 (try simp only [pS])
 refine tg 4 hS ?_
 (try simp only [pS])
 refine tg 5 hS ?_
 (try simp only [pS])
 refine tg 6 hS (v:=pA b (n*3)) ?_
 (try simp only [pS])
 refine tF 7 hS (fun u hu j x hx=>(hu.cell (p:=⟨b,n*3+j,none⟩) hrd.lt).trans (rl j x hx)) ?_
 (try simp only [pS])
 refine cl 3 (cloneF_any b cap gs V (hrd.prefix) (by omega)) (fun e w1 hx => ?_) (hrun:=by rw [←Hn.out];kernel_rfl)
 obtain ⟨v1,g1,rfl,f1,ob1,lg1,b1⟩:=hx
 refine ⟨_,rfl,b1,?_⟩
 (try simp only [pS])
 refine cl 8 (unw_any i0 i1 i2 c0 c1 c2 w1) (fun e w2 hx => ?_)
 obtain ⟨rfl,b2⟩:=hx
 have bc2:=below_next b1 b2
 refine ⟨_,rfl,bc2,?_⟩
 (try simp only [pS])
 have f2:=f1.still b2
 have b3:Below w2.heap.size w2 (w2.alloc (.cells ([unwD ⟨i0,c0,i1,c1,i2,c2⟩].flatMap Fd.cells).toArray 102)):=(Below.refl _ _).alloc (Nat.le_refl _) _
 have r3:=FR.of_lit w2 [unwD ⟨i0,c0,i1,c1,i2,c2⟩]
 refine onlyV 9 (v := .slice (some ⟨w2.heap.size,0,none⟩) 1 1) (w':=w2.alloc (.cells ([unwD ⟨i0,c0,i1,c1,i2,c2⟩].flatMap Fd.cells).toArray 102)) ?_ (below_next bc2 b3) ?_
 · kernel_rfl
 (try simp only [pS])
 have f3:=f2.still b3
 have l3:V.heap.size≤(w2.alloc (.cells ([unwD ⟨i0,c0,i1,c1,i2,c2⟩].flatMap Fd.cells).toArray 102)).heap.size:=Nat.le_trans b1.size (Nat.le_trans b2.size b3.size)
 obtain ⟨v4,w4,g4,hrun4,f4,rs4,ob4,-⟩:=run_app_fl _ V.heap.size v1 gs g1 ob1 f3 w2.heap.size 1 _ r3 (by simp;omega) l3
 have b4:Below V.heap.size V w4:=(below_next bc2 b3).trans (FL.below ob1 f3 rs4 (Nat.le_refl _) l3)
 refine onlyV 10 (v:=v4) ?_ b4 ?_
 · exact exec_appF (.tmp 10) (.tmp 16) rfl rfl rfl rfl hrun4
 (try simp only [pS])
 refine tg 11 b4 ?_
 (try simp only [pS])
 refine wpAnyH_done (by kernel_rfl) ?_ _
 go_wp2
 go_ret
 exact ⟨_,_,rfl,own_base f4 bd.size,ob4,Nat.le_trans bd.size (World.ownsRow.lt f4 _ ob4).1,below_next bd b4⟩
end Go.Proofs.Ytgdcmibdjiaofaa
namespace Go.Proofs.Ytgdcmibdjiaofaa
open Go.RowKit
structure ParFs (lo hi:Nat) (w:World) (p:Nat) (f0 f1 f2:Fd):Prop where
 e0:VecD lo hi w f0 p 0 32 32
 e1:HonD lo hi w f1 p 1
 e2:LnD lo hi w f2 p 2
set_option maxRecDepth 20000 in
set_option maxHeartbeats 2000000 in
theorem pf_any (p:Nat) (w:World):Calls Try.prog 44 #[pA p 0] w fun e w'=>∃ v f0 f1 f2,e = .returned v∧FL w.heap.size w' v [f0,f1,f2]∧ParFs w.heap.size w'.heap.size w' p f0 f1 f2∧Below w.heap.size w w':=by
 go_enter Try.func44,Try.ntmps44
 go_wp2
 refine wp_region_held_drew (S:=fun u=>Below w.drew.heap.size w.drew u) (by kernel_rfl) (Below.refl _ _) (fun hS => ?_)
 have bd:Below w.heap.size w w.drew:=(Below.refl _ _).drew
 generalize w.drew=V at *
 refine tg 0 hS ?_
 (try simp only [pS])
 refine tg 1 hS ?_
 (try simp only [pS])
 refine tg 2 hS (v:=pA p 0) ?_ (hy:=by intro u _;kernel_rfl)
 (try simp only [pS])
 refine tg 4 hS ?_
 (try simp only [pS])
 refine tg 5 hS ?_
 (try simp only [pS])
 refine tg 6 hS (v:=pA p 1) ?_ (hy:=by intro u _;kernel_rfl)
 (try simp only [pS])
 refine tg 8 hS ?_
 (try simp only [pS])
 refine tg 9 hS ?_
 (try simp only [pS])
 refine tg 10 hS (v:=pA p 2) ?_ (hy:=by intro u _;kernel_rfl)
 (try simp only [pS])
 refine cn 3 (vecD_any p 0 32 32 V) (fun e w1 hr => ?_)
 obtain ⟨f0,rfl,d0,b1⟩:=hr
 refine ⟨_,rfl,b1,?_⟩
 (try simp only [pS])
 refine cn 7 (honD_any p 1 w1) (fun e w2 hr => ?_)
 obtain ⟨f1,rfl,d1,b2⟩:=hr
 refine ⟨_,rfl,b2,?_⟩
 (try simp only [pS])
 refine cn 11 (lnD_any p 2 w2) (fun e w3 hr => ?_)
 obtain ⟨f2,rfl,d2,b3⟩:=hr
 refine ⟨_,rfl,b3,?_⟩
 (try simp only [pS])
 have b7:Below w3.heap.size w3 (w3.alloc (.cells ([f0,f1,f2].flatMap Fd.cells).toArray 102)):=(Below.refl _ _).alloc (Nat.le_refl _) _
 refine onlyV 12 (v := .slice (some ⟨w3.heap.size,0,none⟩) 3 3) (w':=w3.alloc (.cells ([f0,f1,f2].flatMap Fd.cells).toArray 102)) ?_ b7 ?_
 · kernel_rfl
 (try simp only [pS])
 refine tg 13 b7 ?_
 (try simp only [pS])
 refine wpAnyH_done (by kernel_rfl) ?_ _
 go_wp2
 go_ret
 have z1:=bd.size
 have z2:=b1.size
 have z3:=b2.size
 have z4:=b3.size
 have z8:=b7.size
 have hl:=FL.lit w.heap.size w3 [f0,f1,f2] (by omega) (by simp)
 generalize w3.alloc (.cells ([f0,f1,f2].flatMap Fd.cells).toArray 102)=W at *
 have c3:=b7
 have c2:=below_next b3 c3
 have c1:=below_next b2 c2
 refine ⟨_,f0,f1,f2,rfl,hl,⟨?_,?_,?_⟩,below_next bd (below_next b1 c1)⟩
 · exact d0.map fun L h=>(h.still c1).wide (by omega) (by omega)
 · exact d1.map fun L h=>(h.still c2).wide (by omega) (by omega)
 · exact d2.map fun L h=>(h.still c3).wide (by omega) (by omega)
structure PkgFs (lo hi:Nat) (w:World) (p p1 p2:Nat) (fv fs fi f0 f1 f2 f3 f4 f5 fg:Fd):Prop where
 ev:NumD lo hi w fv p1 0 2 1 1
 es:NumD lo hi w fs p2 0 2 1 1
 ei:VecD lo hi w fi p 0 32 32
 el:LeafFs lo hi w p 1 1 f0 f1 f2 f3 f4 f5
 eg:VecD lo hi w fg p 7 64 64
set_option maxRecDepth 20000 in
set_option maxHeartbeats 4000000 in
theorem kf_any (p:Nat) (w:World):Calls Try.prog 50 #[pA p 0] w fun e w'=>∃ v fv fs fi f0 f1 f2 f3 f4 f5 fg,e = .returned v∧FL w.heap.size w' v [fv,fs,fi,f0,f1,f2,f3,f4,f5,fg]∧PkgFs (w.heap.size+2) w'.heap.size w' p w.heap.size (w.heap.size+1) fv fs fi f0 f1 f2 f3 f4 f5 fg∧RW w' w.heap.size 0 [.int .i64 1]∧RW w' (w.heap.size+1) 0 [.int .i64 1]∧w.heap.size+2≤w'.heap.size∧Below w.heap.size w w':=by
 obtain ⟨r1,b1,s1⟩:=bx w (.int .i64 1) 3
 obtain ⟨r2,b2,s2⟩:=bx (w.alloc (.cells #[.int .i64 1] 3)) (.int .i64 1) 3
 obtain ⟨W,hW⟩:∃ W,W=(w.alloc (.cells #[.int .i64 1] 3)).alloc (.cells #[.int .i64 1] 3):=⟨_,rfl⟩
 have HW:=Hid.mk' hW
 rw [←hW] at r2 b2 s2
 replace r1:=r1.still b2
 replace b1:=below_next b1 b2
 rw [s1] at r2 s2
 have S2:=Hid.mk' s2
 clear hW s1 s2 b2
 go_enter Try.func50,Try.ntmps50
 go_upto_region 2 with (fail)
 rw [←HW.out]
 refine wp_region_held_drew (S:=fun u=>Below W.drew.heap.size W.drew u) (by kernel_rfl) (Below.refl _ _) (fun hS => ?_)
 have bd:Below W.heap.size W W.drew:=(Below.refl _ _).drew
 replace r1:=r1.drew
 replace r2:=r2.drew
 generalize W.drew=V at *
 refine tg 2 hS ?_
 (try simp only [pS])
 refine tg 3 hS ?_
 (try simp only [pS])
 refine tg 4 hS (v:=pA p 0) ?_ (hy:=by intro u _;kernel_rfl)
 (try simp only [pS])
 refine cn 0 (numD_any w.heap.size 0 2 1 1 V) (fun e w1 hr => ?_)
 obtain ⟨fv,rfl,d0,c1⟩:=hr
 refine ⟨_,rfl,c1,?_⟩
 (try simp only [pS])
 refine cn 1 (numD_any (w.heap.size+1) 0 2 1 1 w1) (fun e w2 hr => ?_)
 obtain ⟨fs,rfl,d1,c2⟩:=hr
 refine ⟨_,rfl,c2,?_⟩
 (try simp only [pS])
 refine cn 5 (vecD_any p 0 32 32 w2) (fun e w3 hr => ?_)
 obtain ⟨fi,rfl,d2,c3⟩:=hr
 refine ⟨_,rfl,c3,?_⟩
 (try simp only [pS])
 have c4:Below w3.heap.size w3 (w3.alloc (.cells ([fv,fs,fi].flatMap Fd.cells).toArray 102)):=(Below.refl _ _).alloc (Nat.le_refl _) _
 refine onlyV 6 (v := .slice (some ⟨w3.heap.size,0,none⟩) 3 3) (w':=w3.alloc (.cells ([fv,fs,fi].flatMap Fd.cells).toArray 102)) ?_ c4 ?_
 · kernel_rfl
 (try simp only [pS])
 refine tg 7 c4 ?_
 (try simp only [pS])
 refine wpAnyH_done (by kernel_rfl) ?_ _
 have z1:=b1.size
 have z2:=bd.size
 have z3:=c1.size
 have z4:=c2.size
 have z5:=c3.size
 have l4:=FL.lit w.heap.size w3 [fv,fs,fi] (by omega) (by simp)
 have s4:(w3.alloc (.cells ([fv,fs,fi].flatMap Fd.cells).toArray 102)).heap.size=w3.heap.size+1:=by simp
 generalize w3.alloc (.cells ([fv,fs,fi].flatMap Fd.cells).toArray 102)=w4 at *
 have S4:=Hid.mk' s4
 have S2':=Hid.mk' S2.out
 have e3:=c4
 have e2:=below_next c3 e3
 have e1:=below_next c2 e2
 have e0:=below_next c1 e1
 replace d0:=d0.map fun L h=>(h.still e1).wide (lo':=w.heap.size+2) (hi':=w3.heap.size) (by have:=S2.out;omega) (by omega)
 replace d1:=d1.map fun L h=>(h.still e2).wide (lo':=w.heap.size+2) (hi':=w3.heap.size) (by have:=S2.out;omega) (by omega)
 replace d2:=d2.map fun L h=>(h.still e3).wide (lo':=w.heap.size+2) (hi':=w3.heap.size) (by have:=S2.out;omega) (by omega)
 replace r1:=r1.still e0
 replace r2:=r2.still e0
 have hb:=below_next b1 (below_next bd e0)
 clear e0 e1 e2 e3 s4 c1 c2 c3 c4 hS
 have cl:=lft_any p 1 1 w4
 have l4':=Hid.mk' l4
 clear l4
 go_upto_region 4 with (first
  | (go_at_call 66;refine cl.mono ?_;clear cl;rintro e w5 ⟨v5,f0,f1,f2,f3,f4,f5,rfl,l5,d3,c5⟩;(obtain ⟨g5,k5,hv5,hg5,-,-,fr5⟩:=l5.read (by simp));subst hv5;(have l6:=l4'.out.still c5);(have h5:w.heap.size≤w5.heap.size:=Nat.le_trans hb.size c5.size))
  | (at_builtin;refine wpList_app_fl rfl _ _ rfl rfl rfl rfl l6 rfl rfl fr5 (by simp) h5 ?_;intro v6 w6 g6 f6 rs6 ob6 q6))
 replace rs6:Rest [w3.heap.size] w5 w6:=rs6
 replace q6:g6=w3.heap.size∨g6=w5.heap.size:=q6
 have z1':w.heap.size+2≤w3.heap.size:=by have:=S2.out;omega
 have s4:=S4.out
 have z6:=c5.size
 have z7:=rs6.size
 have y2:=S2.out
 have lg6:=(World.ownsRow.lt f6 _ ob6).2
 replace d0:=d0.map fun L h=>(h.still c5).rest rs6 (fun x hx=>by rw [List.mem_singleton] at hx;omega)
 replace d1:=d1.map fun L h=>(h.still c5).rest rs6 (fun x hx=>by rw [List.mem_singleton] at hx;omega)
 replace d2:=d2.map fun L h=>(h.still c5).rest rs6 (fun x hx=>by rw [List.mem_singleton] at hx;omega)
 replace d3:=d3.map fun L h=>h.rest rs6 (fun x hx=>by rw [List.mem_singleton] at hx;omega)
 replace r1:=(r1.still c5).rest rs6 (by simp;omega)
 replace r2:=(r2.still c5).rest rs6 (by simp;omega)
 have hb6:Below w.heap.size w w6:=(below_next hb c5).trans (FL.below (g:=w3.heap.size) rfl l6 rs6 (Nat.le_refl _) h5)
 have Y:=Hid.mk' (And.intro s4 (And.intro z6 (And.intro z7 (And.intro y2 (And.intro lg6 q6)))))
 have F6:=Hid.mk' f6
 clear l5 l6 l4' fr5 rs6 q6 s4 y2 S4 S2 S2' lg6 f6 z1 z2 z3 z4 z5 z6 z7
 have cv:=vecD_any p 7 64 64 w6
 go_wp2_with (first
  | (go_at_call 57;refine cv.mono ?_;clear cv;rintro e w7 ⟨fg,rfl,d7,c7⟩;obtain ⟨i0,k0,i1,k1,i2,k2⟩:=fg;(have l7:=F6.out.still c7);(have c8:Below w7.heap.size w7 (w7.alloc (.cells #[clo i0 k0,clo i1 k1,clo i2 k2] 102)):=(Below.refl _ _).alloc (Nat.le_refl _) _);(have l8:=l7.still c8);(have r8:FR (w7.alloc (.cells #[clo i0 k0,clo i1 k1,clo i2 k2] 102)) w7.heap.size [⟨i0,k0,i1,k1,i2,k2⟩]:=FR.of_lit w7 [⟨i0,k0,i1,k1,i2,k2⟩]);(have h8:w.heap.size≤(w7.alloc (.cells #[clo i0 k0,clo i1 k1,clo i2 k2] 102)).heap.size:=Nat.le_trans (below_next hb6 c7).size c8.size))
  | (at_builtin;refine wpList_app_fl rfl _ _ rfl rfl rfl ob6 l8 rfl rfl r8 (by simp) h8 ?_;intro v9 w9 g9 f9 rs9 ob9 q9))
 go_ret
 obtain ⟨s4,z6,z7,y2,lg6,q6⟩:=Y.out
 have c9:=below_next c7 c8
 generalize w7.alloc (.cells #[clo i0 k0,clo i1 k1,clo i2 k2] 102)=w8 at *
 have z8:=c7.size
 have z9:=c8.size
 have z10:=rs9.size
 have u1:=z1'
 refine ⟨_,fv,fs,fi,f0,f1,f2,f3,f4,f5,_,rfl,f9,⟨?_,?_,?_,?_,?_⟩,?_,?_,by omega,?_⟩
 · exact d0.map fun L h=>((h.still c9).rest rs9 (fun x hx=>by rw [List.mem_singleton] at hx;omega)).wide (Nat.le_refl _) (by omega)
 · exact d1.map fun L h=>((h.still c9).rest rs9 (fun x hx=>by rw [List.mem_singleton] at hx;omega)).wide (Nat.le_refl _) (by omega)
 · exact d2.map fun L h=>((h.still c9).rest rs9 (fun x hx=>by rw [List.mem_singleton] at hx;omega)).wide (Nat.le_refl _) (by omega)
 · exact d3.map fun L h=>((h.still c9).rest rs9 (fun x hx=>by rw [List.mem_singleton] at hx;omega)).wide (by omega) (by omega)
 · exact d7.map fun L h=>((h.still c8).rest rs9 (fun x hx=>by rw [List.mem_singleton] at hx;omega)).wide (by omega) (by omega)
 · exact (r1.still c9).rest rs9 (by simp;omega)
 · exact (r2.still c9).rest rs9 (by simp;omega)
 · exact (below_next hb6 c9).trans (FL.below ob6 l8 rs9 (Nat.le_refl _) h8)
end Go.Proofs.Ytgdcmibdjiaofaa
namespace Go.Proofs.Ytgdcmibdjiaofaa
open Go.RowKit
structure Steps (X:List Nat) (fs:List Fd) (gl g:Nat) (al:Nat→Bool) (bd:Nat→Bool) (I Mid:Nat→World→Prop) (J:World→Prop):Prop where
 e0:∀ (k:Nat) (f:Fd),fs[k]? = some f→∀ W,(callFunc f.i0 f.c0).run Try.prog W = .ok (.enter f.i0 f.c0) W
 e2:∀ (k:Nat) (f:Fd),fs[k]? = some f→∀ W,(callFunc f.i2 (#[pA g 0] ++ f.c2)).run Try.prog W = .ok (.enter f.i2 (#[pA g 0] ++ f.c2)) W
 get:∀ (k:Nat) (f:Fd),fs[k]? = some f→∀ W,I k W→Calls Try.prog f.i2 (#[pA g 0] ++ f.c2) W fun e w'=>if bd k=true then e = .panicked noE∧J w' else e = .returned (.tuple #[])∧Mid k w'∧Rest X W w'
 xs:∀ k W,I k W→∀ x,x∈X→x<W.heap.size
 allow:∀ (k:Nat) (f:Fd),fs[k]? = some f→∀ W,Mid k W→Calls Try.prog f.i0 f.c0 W fun e w'=>e = .returned (.bool (al k))∧(al k=true→I (k+1) w')∧J w'
 still:∀ k W W',I k W→Below W.heap.size W W'→I k W'
 fr:∀ k W,I k W→FR W gl fs
 j:∀ k W,I k W→J W
open Classical in
def GetA (R:Prop) (D:World→List Value→Prop) (zero:List Value) (e:Ending) (w':World):Prop:=if R then ∃ cs,e = .returned (.tuple #[.agg cs.toArray,.int .i64 0])∧D w' cs else e = .returned (.tuple #[.agg zero.toArray,.int .i64 21])
theorem GetA.form {R:Prop} {D:World→List Value→Prop} {zero:List Value} {e:Ending} {w:World} (h:GetA R D zero e w):∃ cs z,e = .returned (.tuple #[.agg cs,.int .i64 z]):=by
 unfold GetA at h
 split at h
 · obtain ⟨cs,h1,-⟩:=h;exact ⟨cs.toArray,0,h1⟩
 · exact ⟨_,21,h⟩
theorem results_two {P:Program} {fn:Func} {p q:Tmp} {ty te:TypeId} (h:fn.results=#[.cell p ty,.cell q te]) (tmps:Array Value) (w:World) (g:Nat) (cs:List Value) (d:TypeDesc) (k:Nat) (z:Int)
 (hp:tmps.getD p undef = .pointer (some ⟨g,0,none⟩)) (hq:tmps.getD q undef = .pointer (some ⟨k,0,none⟩)) (hc:w.rangeAt g 0 cs)
 (hu:P.underlying ty=some d) (hd:d.isRow=true) (hi:(P.info? ty).map (·.size)=some cs.length) (hz:(loadVar te ⟨k,0,none⟩).run P w = .ok (.int .i64 z) w) :
 (results fn tmps).run P w = .ok (.tuple #[.agg cs.toArray,.int .i64 z]) w:=by
 have hp':tmps[p]?.getD undef = .pointer (some ⟨g,0,none⟩):=by simpa using hp
 have hq':tmps[q]?.getD undef = .pointer (some ⟨k,0,none⟩):=by simpa using hq
 simp [results,h,hp',hq',asAddr,run_loadVar_mid w g 0 ty cs d hc hu hd hi,hz]
theorem ldErr (w:World) (k:Nat) (z:Int) (h:w.cell? ⟨k,0,none⟩=some (.int .i64 z)):(loadVar 28 ⟨k,0,none⟩).run Try.prog w = .ok (.int .i64 z) w:=by
 simp [go_sem,h]
end Go.Proofs.Ytgdcmibdjiaofaa
namespace Go.Proofs.Ytgdcmibdjiaofaa
open Go.RowKit
def vx (L:Nat) (B:Nat→Nat) (r:Rd):Tx:=⟨(vecD L B r).1,fun j=>B ((lenD L B r).2.at_+j)⟩
def tx0:Tx:=⟨0,fun _=>0⟩
def lf0:LfD:=⟨tx0,tx0,tx0,0,tx0,tx0⟩
def rlS (L:Nat) (B:Nat→Nat) (p:LfD × Rd):Nat→LfD × Rd
 | 0=>({ p.1 with enc:=vx L B p.2 },(vecD L B p.2).2)
 | 1=>({ p.1 with sig:=vx L B p.2 },(vecD L B p.2).2)
 | 2=>({ p.1 with name:=vx L B p.2 },(vecD L B p.2).2)
 | 3=>({ p.1 with src:=(((numD L B 1 p.2).1:Nat):Int) },(numD L B 1 p.2).2)
 | 4=>if p.1.src=3 then ({ p.1 with hash:=vx L B p.2 },(vecD L B p.2).2) else p
 | _=>({ p.1 with sg:=vx L B p.2 },(vecD L B p.2).2)
def rl (L:Nat) (B:Nat→Nat) (r:Rd):Nat→LfD × Rd
 | 0=>(lf0,r)
 | k+1=>rlS L B (rl L B r k) k
structure LfAt (N:Nat) (W:World) (cs:List Value) (o:Nat) (d:LfD) (v0 v1 v2 v4 v5:Value):Prop where
 c0:cs[o]? = some v0
 c1:cs[o+1]? = some v1
 c2:cs[o+2]? = some v2
 c3:cs[o+3]? = some (.int .i64 d.src)
 c4:cs[o+4]? = some v4
 c5:cs[o+5]? = some v5
 o0:Own N W v0 d.enc.n d.enc.b
 o1:Own N W v1 d.sig.n d.sig.b
 o2:Own N W v2 d.name.n d.name.b
 o4:Own N W v4 d.hash.n d.hash.b
 o5:Own N W v5 d.sg.n d.sg.b
theorem LfAt.rest {N:Nat} {X:List Nat} {W W':World} {cs:List Value} {o:Nat} {d:LfD} {v0 v1 v2 v4 v5:Value} (h:LfAt N W cs o d v0 v1 v2 v4 v5) (hr:Rest X W W') (hX:∀ x,x∈X→x<N):LfAt N W' cs o d v0 v1 v2 v4 v5 :=
 ⟨h.c0,h.c1,h.c2,h.c3,h.c4,h.c5,own_rest h.o0 hr hX,own_rest h.o1 hr hX,own_rest h.o2 hr hX,own_rest h.o4 hr hX,own_rest h.o5 hr hX⟩
def StepL (N lo hi g L:Nat) (B:Nat→Nat) (r0:Rd) (p o k:Nat) (cs:List Value) (W:World) (e:Ending) (w':World):Prop :=
 e = .returned (.tuple #[])∧∃ cs',cs'.length=cs.length∧(∀ j,j<o∨o+6≤j→cs'[j]? = cs[j]?)∧RW w' p 0 cs'∧(∃ v0 v1 v2 v4 v5,LfAt N w' cs' o (rl L B r0 (k+1)).1 v0 v1 v2 v4 v5)∧RdC lo hi w' g L B (rl L B r0 (k+1)).2∧Rest [p,g] W w'
section
variable {N lo hi lo' hi' g L p o:Nat} {B:Nat→Nat} {r0:Rd} {cs:List Value} {W:World} {v0 v1 v2 v4 v5:Value} {f:Fd} {l m:Int}
theorem stepV (i:Nat) (hi6:i<6) {r:Rd} {d':Value→World→Prop} (lB:∀ j,B j<256) (hL:L<140737488355000) (hf:VecD lo' hi' W f p (o+i) l m) (hr:RW W p 0 cs) (hlen:o+6≤cs.length) (hR:RdC lo hi W g L B r) (hp:p<lo∨hi≤p) (hpl:p<lo') (hgl:g<lo')
 (hd:∀ v w',Rest [p,g] W w'→Own W.heap.size w' v (vx L B r).n (vx L B r).b→d' v w') :
 Calls Try.prog f.i2 (#[pA g 0] ++ f.c2) W fun e w'=>e = .returned (.tuple #[])∧∃ v,RW w' p 0 (cs.set (o+i) v)∧d' v w'∧RdC lo hi w' g L B (vecD L B r).2∧Rest [p,g] W w':=by
 obtain ⟨q1,q2,q3,rfl,Bx⟩:=hf
 obtain ⟨h1,h2,r1⟩:=Bx (q1,[pA p (o+i)]) (by simp)
 exact (vGet q1 p (o+i) lo hi g L B lB r hL cs W r1 hr (by omega) hR hp (by show q1≠p;have:lo'≤q1:=h1;omega) (by show q1≠g;have:lo'≤q1:=h1;omega)).mono fun e w' ⟨h3,v,h4,h5,h6,h7⟩=>⟨h3,v,h4,hd v w' h7 h5,h6,h7⟩
end
theorem set_len {cs:List Value} {i:Nat} {v:Value}:(cs.set i v).length=cs.length:=List.length_set
theorem set_out {cs:List Value} {o i j:Nat} {v:Value} (hi:i<6) (hj:j<o∨o+6≤j):(cs.set (o+i) v)[j]? = cs[j]?:=List.getElem?_set_ne (by omega)
theorem set_oth {cs:List Value} {o i j:Nat} {v:Value} (hj:i≠j):(cs.set (o+i) v)[o+j]? = cs[o+j]?:=List.getElem?_set_ne (by omega)
theorem set_me {cs:List Value} {i:Nat} {v:Value} (h:i<cs.length):(cs.set i v)[i]? = some v:=List.getElem?_set_self h
theorem leafGet {N lo hi lo' hi' g L p o:Nat} {B:Nat→Nat} (lB:∀ j,B j<256) (hL:L<140737488355000) {r0:Rd} {last:Int} {f0 f1 f2 f3 f4 f5:Fd} (k:Nat) (hk:k<6) (f:Fd) (hf:[f0,f1,f2,f3,f4,f5][k]? = some f) {cs:List Value} {W:World} {v0 v1 v2 v4 v5:Value}
 (hF:LeafFs lo' hi' W p o last f0 f1 f2 f3 f4 f5) (hr:RW W p 0 cs) (hlen:o+6≤cs.length) (hA:LfAt N W cs o (rl L B r0 k).1 v0 v1 v2 v4 v5) (hR:RdC lo hi W g L B (rl L B r0 k).2) (hp:p<lo∨hi≤p) (hpl:p<lo') (hgl:g<lo') (hpN:p<N) (hgN:g<N) (hNW:N≤W.heap.size) :
 Calls Try.prog f.i2 (#[pA g 0] ++ f.c2) W (StepL N lo hi g L B r0 p o k cs W):=by
 have hX:∀ x,x∈[p,g]→x<N:=fun x hx=>by simp at hx;omega
 match k,hk,hf with
 | 0,_,hf =>
  cases hf
  exact (stepV (d':=fun v w'=>∃ v0 v1 v2 v4 v5,LfAt N w' (cs.set (o+0) v) o (rl L B r0 (0+1)).1 v0 v1 v2 v4 v5) 0 (by omega) lB hL hF.e0 hr hlen hR hp hpl hgl (fun v w' x ow=>by
   have h:=hA.rest x hX
   exact ⟨v,v1,v2,v4,v5,set_me (by omega),(set_oth (i:=0) (j:=1) (by decide)).trans h.c1,(set_oth (i:=0) (j:=2) (by decide)).trans h.c2,(set_oth (i:=0) (j:=3) (by decide)).trans h.c3,(set_oth (i:=0) (j:=4) (by decide)).trans h.c4,(set_oth (i:=0) (j:=5) (by decide)).trans h.c5,own_base ow hNW,h.o1,h.o2,h.o4,h.o5⟩)).mono fun e w' ⟨h1,v,h2,h3,h4,h5⟩=>⟨h1,_,set_len,fun j hj=>set_out (by decide) hj,h2,h3,h4,h5⟩
 | 1,_,hf =>
  cases hf
  exact (stepV (d':=fun v w'=>∃ v0 v1 v2 v4 v5,LfAt N w' (cs.set (o+1) v) o (rl L B r0 (1+1)).1 v0 v1 v2 v4 v5) 1 (by omega) lB hL hF.e1 hr hlen hR hp hpl hgl (fun v w' x ow=>by
   have h:=hA.rest x hX
   exact ⟨v0,v,v2,v4,v5,(set_oth (i:=1) (j:=0) (by decide)).trans h.c0,set_me (by omega),(set_oth (i:=1) (j:=2) (by decide)).trans h.c2,(set_oth (i:=1) (j:=3) (by decide)).trans h.c3,(set_oth (i:=1) (j:=4) (by decide)).trans h.c4,(set_oth (i:=1) (j:=5) (by decide)).trans h.c5,h.o0,own_base ow hNW,h.o2,h.o4,h.o5⟩)).mono fun e w' ⟨h1,v,h2,h3,h4,h5⟩=>⟨h1,_,set_len,fun j hj=>set_out (by decide) hj,h2,h3,h4,h5⟩
 | 2,_,hf =>
  cases hf
  exact (stepV (d':=fun v w'=>∃ v0 v1 v2 v4 v5,LfAt N w' (cs.set (o+2) v) o (rl L B r0 (2+1)).1 v0 v1 v2 v4 v5) 2 (by omega) lB hL hF.e2 hr hlen hR hp hpl hgl (fun v w' x ow=>by
   have h:=hA.rest x hX
   exact ⟨v0,v1,v,v4,v5,(set_oth (i:=2) (j:=0) (by decide)).trans h.c0,(set_oth (i:=2) (j:=1) (by decide)).trans h.c1,set_me (by omega),(set_oth (i:=2) (j:=3) (by decide)).trans h.c3,(set_oth (i:=2) (j:=4) (by decide)).trans h.c4,(set_oth (i:=2) (j:=5) (by decide)).trans h.c5,h.o0,h.o1,own_base ow hNW,h.o4,h.o5⟩)).mono fun e w' ⟨h1,v,h2,h3,h4,h5⟩=>⟨h1,_,set_len,fun j hj=>set_out (by decide) hj,h2,h3,h4,h5⟩
 | 3,_,hf =>
  cases hf
  obtain ⟨q1,q2,q3,q4,rfl,Bx⟩:=hF.e3
  obtain ⟨a1,a2,x1⟩:=Bx (q1,[pA p (o+3)]) (by simp)
  obtain ⟨b1,b2,x2⟩:=Bx (q2,[.int .i64 1]) (by simp)
  replace a1:lo'≤q1:=a1
  replace b1:lo'≤q2:=b1
  refine (nGet q1 q2 p (o+3) lo hi g L B lB (rl L B r0 3).2 1 cs W x1 x2 hr (by omega) hR hp (by omega) (by omega) (by omega) (by omega)).mono fun e w' ⟨h1,h2,h3,h4⟩=>⟨h1,_,set_len,fun j hj=>set_out (by decide) hj,h2,?_,h3,h4⟩
  have h:=hA.rest h4 hX
  exact ⟨v0,v1,v2,v4,v5,(set_oth (i:=3) (j:=0) (by decide)).trans h.c0,(set_oth (i:=3) (j:=1) (by decide)).trans h.c1,(set_oth (i:=3) (j:=2) (by decide)).trans h.c2,set_me (by omega),(set_oth (i:=3) (j:=4) (by decide)).trans h.c4,(set_oth (i:=3) (j:=5) (by decide)).trans h.c5,h.o0,h.o1,h.o2,h.o4,h.o5⟩
 | 4,_,hf =>
  cases hf
  obtain ⟨q,q0,q1,s1,s2,s3,g9,g10,kk,rfl,Bx⟩:=hF.e4
  obtain ⟨_,_,xq⟩:=Bx (q,[pA p o]) (by simp)
  obtain ⟨a1,_,x1⟩:=Bx (q1,[pA p (o+4)]) (by simp)
  obtain ⟨_,_,xk⟩:=Bx (kk,[clo 114 #[pA q 0,pA g9 0,pA g10 0]]) (by simp)
  obtain ⟨_,_,x9⟩:=Bx (g9,[clo 98 #[pA q0 0],clo 81 #[pA q1 0],clo 84 #[pA q1 0]]) (by simp)
  obtain ⟨_,_,x10⟩:=Bx (g10,[clo 80 #[pA s1 0,pA s2 0,pA s3 0],clo 91 #[],clo 92 #[]]) (by simp)
  replace a1:lo'≤q1:=a1
  have cK:=kind_any q g9 g10 p o (rl L B r0 4).1.src ⟨98,#[pA q0 0],81,#[pA q1 0],84,#[pA q1 0]⟩ ⟨80,#[pA s1 0,pA s2 0,pA s3 0],91,#[],92,#[]⟩ W xq (hr.cell hA.c3) x9 x10
  have e5:rl L B r0 5=if (rl L B r0 4).1.src=3 then ({ (rl L B r0 4).1 with hash:=vx L B (rl L B r0 4).2 },(vecD L B (rl L B r0 4).2).2) else rl L B r0 4:=rfl
  by_cases hs:(rl L B r0 4).1.src=3
  · rw [if_pos hs] at cK e5
    unfold StepL
    refine lhGet kk g _ _ _ W xk cK (fun W=>by kernel_rfl) (fun W' hb => ?_)
    refine (vGet q1 p (o+4) lo hi g L B lB (rl L B r0 4).2 hL cs W' (x1.still hb) (hr.still hb) (by omega) (hR.still hb) hp (by omega) (by omega)).mono fun e w' ⟨h1,v,h2,h3,h4,h5⟩=>⟨h1,_,set_len,fun j hj=>set_out (by decide) hj,h2,?_,by rw [e5];exact h4,(Rest.of_below hb).trans h5⟩
    have h:=hA.rest ((Rest.of_below hb).trans h5) hX
    rw [e5]
    exact ⟨v0,v1,v2,v,v5,(set_oth (i:=4) (j:=0) (by decide)).trans h.c0,(set_oth (i:=4) (j:=1) (by decide)).trans h.c1,(set_oth (i:=4) (j:=2) (by decide)).trans h.c2,(set_oth (i:=4) (j:=3) (by decide)).trans h.c3,set_me (by omega),(set_oth (i:=4) (j:=5) (by decide)).trans h.c5,h.o0,h.o1,h.o2,own_base h3 (Nat.le_trans hNW hb.size),h.o5⟩
  · rw [if_neg hs] at cK e5
    unfold StepL
    refine lhGet kk g _ _ _ W xk cK (fun W=>by kernel_rfl) (fun W' hb => ?_)
    refine (uGet (pA g 0) W').mono fun e w' ⟨h1,h2⟩=>⟨h1,cs,rfl,fun _ _=>rfl,?_⟩
    rw [h2,e5]
    exact ⟨hr.still hb,⟨v0,v1,v2,v4,v5,hA.rest (Rest.of_below (X:=[p,g]) hb) hX⟩,hR.still hb,Rest.of_below hb⟩
 | 5,_,hf =>
  cases hf
  exact (stepV (d':=fun v w'=>∃ v0 v1 v2 v4 v5,LfAt N w' (cs.set (o+5) v) o (rl L B r0 (5+1)).1 v0 v1 v2 v4 v5) 5 (by omega) lB hL hF.e5 hr hlen hR hp hpl hgl (fun v w' x ow=>by
   have h:=hA.rest x hX
   exact ⟨v0,v1,v2,v4,v,(set_oth (i:=5) (j:=0) (by decide)).trans h.c0,(set_oth (i:=5) (j:=1) (by decide)).trans h.c1,(set_oth (i:=5) (j:=2) (by decide)).trans h.c2,(set_oth (i:=5) (j:=3) (by decide)).trans h.c3,(set_oth (i:=5) (j:=4) (by decide)).trans h.c4,set_me (by omega),h.o0,h.o1,h.o2,h.o4,own_base ow hNW⟩)).mono fun e w' ⟨h1,v,h2,h3,h4,h5⟩=>⟨h1,_,set_len,fun j hj=>set_out (by decide) hj,h2,h3,h4,h5⟩
 | n+6,hk,_=>exact absurd hk (by omega)
end Go.Proofs.Ytgdcmibdjiaofaa
namespace Go.Proofs.Ytgdcmibdjiaofaa
open Go.RowKit
theorem infoL:(Try.prog.info? 26).map (·.size)=some 6:=by kernel_rfl
def zeroL:List Value:=[.slice none 0 0,.slice none 0 0,.slice none 0 0,.int .i64 0,.slice none 0 0,.slice none 0 0]
set_option maxRecDepth 20000 in
theorem catchL (p q:Nat) (cs:List Value) (y:Value) (u:TypeId) (pv:Value) (older:List PanicEntry) (w:World) (hp:RW w p 0 cs) (hl:cs.length=6) (hq:RW w q 0 [y]) (hne:p≠q) :
 CallsD Try.prog 67 #[pA p 0,pA q 0] (.panicking ({ v := .iface u pv,recovered:=false } :: older)) w fun e u' w' =>
  e = .returned (.tuple #[])∧u' = .panicking ({ v := .iface u pv,recovered:=true } :: older)∧RW w' p 0 zeroL∧RW w' q 0 [.int .i64 21]∧Rest [p,q] w w':=by
 obtain ⟨W,hW⟩:∃ W,W=w.alloc (.cells #[.slice none 0 0,.slice none 0 0,.slice none 0 0,.int .i64 0,.slice none 0 0,.slice none 0 0] 26):=⟨_,rfl⟩
 have k1:=RW.fresh w [.slice none 0 0,.slice none 0 0,.slice none 0 0,.int .i64 0,.slice none 0 0,.slice none 0 0] 26
 rw [show w.alloc (.cells [.slice none 0 0,.slice none 0 0,.slice none 0 0,.int .i64 0,.slice none 0 0,.slice none 0 0].toArray 26)=W from hW.symm] at k1
 have b1:Below w.heap.size w W:=by rw [hW];exact (Below.refl _ _).alloc (Nat.le_refl _) _
 have HW:=Hid.mk' hW
 have hpW:=hp.still b1
 have hqW:=hq.still b1
 obtain ⟨Z,hZ⟩:∃ Z,Z=zeroL:=⟨_,rfl⟩
 have hi1:(Try.prog.info? 26).map (·.size)=some Z.length:=by rw [hZ];exact infoL
 have hi2:(Try.prog.info? 26).map (·.size)=some Z.toArray.size:=by rw [hZ];exact infoL
 have h1:Z.toArray.all (·.oneCell')=true:=by rw [hZ];simp [zeroL,Value.oneCell']
 have zl:Z.length=6:=by rw [hZ];rfl
 rw [show [.slice none 0 0,.slice none 0 0,.slice none 0 0,.int .i64 0,.slice none 0 0,.slice none 0 0]=Z from hZ.symm] at k1
 rw [←hZ]
 have r1:=k1.range
 have t1:W.there p 0 Z.toArray.size:=by have:=hpW.there;rw [List.size_toArray,zl];rw [hl] at this;exact this
 have X2:Rest [p,q] W (W.setCells p 0 Z):=Rest.of_out (Out.setCells (b:=p) (o:=0) (n:=Z.length) W _ (Nat.le_refl _) (Nat.le_refl _)) (by simp)
 have hp2:RW (W.setCells p 0 Z) p 0 Z:=hpW.stored _ (by rw [hl,zl])
 have hq2:=hqW.far p 0 Z (.inl (fun e=>hne e.symm))
 have c2:=hq2.cell (o:=0) rfl
 have z2:=hq2.live (o:=0) (by simp)
 have XW:Rest [p,q] w W:=Rest.of_below b1
 have hp3:=hp2.rest (Rest.setCell (X:=[q]) (b:=q) (p:=0) (W.setCells p 0 Z) (.int .i64 21) (by simp)) (by simpa using hne)
 have hq3:=hq2.set1 (o:=0) (by simp) (.int .i64 21)
 have X3:Rest [p,q] w ((W.setCells p 0 Z).setCell ⟨q,0,none⟩ (.int .i64 21)):=(XW.trans X2).trans (Rest.setCell _ _ (by simp))
 have HF:=Hid.mk' (And.intro hp3 (And.intro hq3 X3))
 clear hW hpW hqW hZ X2 hp2 hq2 XW hp3 hq3 X3
 refine callsD_of_wpS Try.func67 rfl fun c₀ cs' hu => ?_
 apply wpS_seq
 apply wpS_region
 simp [wpOpsS,go_sem,recoverD,hu,Try.ntmps67,Exit.thenS]
 refine wpS_cond (t:=true) (by simp [Act.eval,Array.replicate]) ?_
 simp only [if_true]
 refine wpS_of_wp ?_
 rw [show #[pA p 0,pA q 0] ++ ((Array.replicate 4 undef).setIfInBounds 1 (Value.iface u pv)).setIfInBounds 2 (Value.bool true)=#[pA p 0,pA q 0,undef,Value.iface u pv,.bool true,undef] from rfl]
 go_upto_region 2 with (fail)
 rw [←HW.out]
 clear hu
 go_wp2_with (first
  | (with_reducible (refine id (?_:wpList _ _ _ _ _ _));refine wpList_load_mid rfl 26 _ rfl w.heap.size 0 rfl Z _ r1 Try.underlying26 rfl hi1 ?_)
  | (with_reducible (refine id (?_:wpList _ _ _ _ _ _));refine wpList_store_mid rfl 26 _ _ rfl p 0 Z.toArray rfl rfl t1 hi2 h1 ?_))
 simp [bodyPostS,results,Try.results67]
 exact HF.out
theorem idleL (p q:Nat) (w:World) :
 CallsD Try.prog 67 #[pA p 0,pA q 0] .returning w fun e u' w'=>e = .returned (.tuple #[])∧u' = .returning∧w'=w:=by
 refine callsD_of_wpS Try.func67 rfl fun c₀ cs hu => ?_
 apply wpS_seq
 apply wpS_region
 simp [wpOpsS,go_sem,recoverD,hu,Try.ntmps67,Exit.thenS]
 refine wpS_cond (t:=false) (by simp [Act.eval,Array.replicate]) ?_
 simp only [Bool.false_eq_true,if_false]
 refine wpS_of_wp (wp_skip ?_)
 cases c₀
 simp_all [bodyPostS,results,Try.results67]
def JL (w W:World):Prop:=∃ cs,cs.length=6∧RW W w.heap.size 0 cs∧RW W (w.heap.size+1) 0 [.int .i64 0]∧Below w.heap.size w W
theorem doorL (w W:World) (tmps:Array Value) (Pst:Ending→World→Prop) (hJ:JL w W) (h4:tmps.getD 4 undef=pA w.heap.size 0) (h5:tmps.getD 5 undef=pA (w.heap.size+1) 0) (hP:∀ w',Below w.heap.size w w'→Pst (.returned (.tuple #[.agg zeroL.toArray,.int .i64 21])) w') :
 bodyPostD Try.prog Try.f40 Pst (.panic noE) { tmps:=tmps,defers:=[{ target := .fn (.func 67) #[pA w.heap.size 0,pA (w.heap.size+1) 0],args:=#[] }] } W:=by
 obtain ⟨cs,hl,r1,r2,hb⟩:=hJ
 refine leaves_cons (f:=67) (args:=#[pA w.heap.size 0,pA (w.heap.size+1) 0]) (by simp) (by simp [go_sem]) ?_
 refine (catchL w.heap.size (w.heap.size+1) cs _ 9 (.string noB) [] W r1 hl r2 (by omega)).mono ?_
 rintro e u' w'' ⟨rfl,rfl,r3,r4,x3⟩
 show Leaves _ _ _ _ [] (settle (.panicking [{ v := .iface 9 (.string noB),recovered:=true }])) w''
 refine ⟨_,results_two Try.results40 tmps w'' w.heap.size zeroL _ (w.heap.size+1) 21 h4 h5 r3.range Try.underlying26 rfl infoL (ldErr w'' _ 21 (r4.cell (o:=0) rfl)),hP w'' (hb.trans (x3.below (fun x hx=>by simp at hx;omega) hb.size))⟩
set_option maxRecDepth 20000 in
set_option maxHeartbeats 4000000 in
theorem getL_any (v:Value) (L:Nat) (B:Nat→Nat) (hL:L<140737488355000) (al bd:Nat→Bool) (cnt:Nat) (h0:0<cnt) (h1:cnt≤100) (rn:Rd) (D:World→List Value→Prop) (w:World) (hv:BytesIn w v L B)
 (hD:∀ W W' cs,D W cs→Rest [w.heap.size,w.heap.size+1] W W'→D W' cs) (hDl:∀ W cs,D W cs→cs.length=6∧cs.toArray.all (·.oneCell')=true)
 (HF:∀ g lo hi W,RW W w.heap.size 0 zeroL→RW W (w.heap.size+1) 0 [.int .i64 0]→w.heap.size+2≤lo→RdC lo hi W g L B ⟨0,0⟩→Below w.heap.size w W→Calls Try.prog 37 #[pA w.heap.size 0] W fun e w'=>∃ X gl kp fs I Mid,e = .returned (.slice (some ⟨gl,0,none⟩) cnt kp)∧fs.length=cnt∧I 0 w'∧Steps X fs gl g al bd I Mid (JL w)∧(∀ W,I cnt W→RdC lo hi W g L B rn∧∃ cs,RW W w.heap.size 0 cs∧D W cs)) :
 Calls Try.prog 40 #[v,clo 37 #[]] w fun e w'=>Below w.heap.size w w'∧GetA (allU (fun k=>!bd k && al k) cnt=true∧endD L rn=0) D zeroL e w':=by
 have hmf:∀ (fn:Fn) (first cap:Array Value) (w:World),(Instr.makeFunc fn first cap).run Try.prog w = .ok (.func fn first cap) w:=fun _ _ _ _=>rfl
 obtain ⟨V,hV⟩:∃ V,V=w.alloc (.cells #[.slice none 0 0,.slice none 0 0,.slice none 0 0,.int .i64 0,.slice none 0 0,.slice none 0 0] 26):=⟨_,rfl⟩
 have k1:=RW.fresh w [.slice none 0 0,.slice none 0 0,.slice none 0 0,.int .i64 0,.slice none 0 0,.slice none 0 0] 26
 rw [show w.alloc (.cells [.slice none 0 0,.slice none 0 0,.slice none 0 0,.int .i64 0,.slice none 0 0,.slice none 0 0].toArray 26)=V from hV.symm] at k1
 have b1:Below w.heap.size w V:=by rw [hV];exact (Below.refl _ _).alloc (Nat.le_refl _) _
 have s1:V.heap.size=w.heap.size+1:=by rw [hV];simp
 obtain ⟨k2,b2,s2⟩:=bx V (.int .i64 0) 28
 obtain ⟨W,hW⟩:∃ W,W=V.alloc (.cells #[.int .i64 0] 28):=⟨_,rfl⟩
 have HW:Hid (W=(w.alloc (.cells #[.slice none 0 0,.slice none 0 0,.slice none 0 0,.int .i64 0,.slice none 0 0,.slice none 0 0] 26)).alloc (.cells #[.int .i64 0] 28)):=Hid.mk' (by rw [hW,hV])
 rw [←hW] at k2 b2 s2
 replace k1:RW W w.heap.size 0 zeroL:=k1.still b2
 replace b1:=below_next b1 b2
 rw [s1] at k2 s2
 have S2:=Hid.mk' s2
 have cN:=cNew_any v L B hL W (hv.keep b1)
 have HF':=Hid.mk' HF
 have HD:=Hid.mk' hD
 have HDl:=Hid.mk' hDl
 have K1:=Hid.mk' k1
 have K2:=Hid.mk' k2
 obtain ⟨Pst,hP⟩:∃ Pst:Ending→World→Prop,Pst=fun e w'=>Below w.heap.size w w'∧GetA (allU (fun k=>!bd k && al k) cnt=true∧endD L rn=0) D zeroL e w':=⟨_,rfl⟩
 have HP:=Hid.mk' hP
 rw [←hP]
 clear hV hW s1 s2 HF hD hDl b2 k1 k2 hP
 go_enter_defers Try.func40,Try.ntmps40
 go_upto_region 2 with (fail)
 rw [←HW.out]
 go_wp2_with (first
  | (go_at_call 68;refine cN.mono ?_;clear cN;rintro e w1 ⟨g,rfl,R1,c1⟩;(have cF:=HF'.out g _ _ w1 (K1.out.still c1) (K2.out.still c1) (by rw [S2.out];exact Nat.le_refl _) R1 (below_next b1 c1)))
  | (go_at_call 37;refine cF.mono ?_;clear cF;rintro e w2 ⟨X,gl,kp,fs,I,Mid,rfl,hlen,i0,st,fin⟩;(have ST:=Hid.mk' st);(have FN:=Hid.mk' fin);(have HL:=Hid.mk' hlen);clear st fin hlen))
 go_loopw [15] (fun i wr=>∃ k:Nat,k≤cnt∧i = .int .i64 k∧I k wr∧allU (fun k=>!bd k && al k) k=true) (fun i _=>cnt - (intOf i).toNat)
 case atStart=>exact ⟨0,Nat.zero_le _,rfl,i0,rfl⟩
 case round =>
  clear i0 b1
  obtain ⟨k,hk,rfl,hI,hal⟩:=hrel
  by_cases hlt:k<cnt
  · have hkl:k<fs.length:=by rw [HL.out];exact hlt
    have hfk:fs[k]? = some fs[k]:=List.getElem?_eq_getElem hkl
    obtain ⟨f,hf⟩:∃ f,f=fs[k]:=⟨_,rfl⟩
    rw [←hf] at hfk
    clear hf
    have fr:=(ST.out.fr k wr hI).at_ k f hfk
    obtain ⟨i0,c0,i1,c1,i2,c2⟩:=f
    have fr':wr.rangeAt gl (k*3) [clo i0 c0,clo i1 c1,clo i2 c2]:=fr
    have hx0:=ST.out.e0 k _ hfk
    have hx2:=ST.out.e2 k _ hfk
    have HG:=Hid.mk' (ST.out.get k _ hfk)
    have HA:=Hid.mk' (ST.out.allow k _ hfk)
    have HX2:=Hid.mk' hx2
    have HX0:=Hid.mk' hx0
    clear fr hfk hx2 hx0
    have k5:=(RW.fresh wr [.nilFunc,.nilFunc,.nilFunc] 102).stored [clo i0 c0,clo i1 c1,clo i2 c2] rfl
    have b5:Below wr.heap.size wr ((wr.alloc (.cells #[.nilFunc,.nilFunc,.nilFunc] 102)).setCells wr.heap.size 0 [clo i0 c0,clo i1 c1,clo i2 c2]):=b3 (Below.refl _ _) (Nat.le_refl _) rfl
    obtain ⟨W5,hW5⟩:∃ W5,W5=(wr.alloc (.cells #[.nilFunc,.nilFunc,.nilFunc] 102)).setCells wr.heap.size 0 [clo i0 c0,clo i1 c1,clo i2 c2]:=⟨_,rfl⟩
    have HW5:=Hid.mk' hW5
    rw [←hW5] at k5 b5
    clear hW5
    go_upto_region 6 with (first
     | (with_reducible (refine id (?_:wpList _ _ _ _ _ _));refine ldF _ rfl rfl fr' ?_ rfl)
     | (with_reducible (refine id (?_:wpList _ _ _ _ _ _));refine stF _ _ rfl rfl rfl rfl th3 ?_ rfl))
    dsimp only [Act.put]
    rw [show (wr.alloc (.cells [.nilFunc,.nilFunc,.nilFunc].toArray 102)).setCells wr.heap.size 0 [clo i0 c0,clo i1 c1,clo i2 c2]=W5 from HW5.out.symm]
    clear fr'
    have q0:=k5.cell (o:=2) rfl
    have I5:=ST.out.still k wr W5 hI b5
    have hX:=ST.out.xs k wr hI
    have cg:=HG.out W5 I5
    have lw:=k5.lt
    have KK:=Hid.mk' k5
    clear hI k5 b5 HW5
    by_cases hbd:bd k=true
    · have hno:¬(allU (fun k=>!bd k && al k) cnt=true∧endD L rn=0):=fun h=>by rw [allU_false (k:=k) (by rw [hbd];rfl) hlt] at h;cases h.1
      simp only [if_pos hbd] at cg
      go_wp2_with (with_reducible (refine id (?_:wpList _ _ _ _ _ _));refine wpList_clo1 rfl cg HX2.out _ _ _ rfl rfl rfl ?_;clear cg;rintro e w6 ⟨rfl,hj⟩;refine .inr ⟨_,rfl,?_⟩)
      exact doorL w w6 _ Pst hj rfl rfl (fun w' hb=>by rw [HP.out];exact ⟨hb,by unfold GetA;rw [if_neg hno]⟩)
    · simp only [if_neg hbd] at cg
      go_upto_region 7 with (with_reducible (refine id (?_:wpList _ _ _ _ _ _));refine wpList_clo1 rfl cg HX2.out _ _ _ rfl rfl rfl ?_;clear cg;rintro e w6 ⟨rfl,hm,x6⟩;refine .inl ⟨_,rfl,?_⟩)
      have k6:=KK.out.rest x6 (fun e=>Nat.lt_irrefl _ (hX _ e))
      have q6:=k6.cell (o:=0) rfl
      have ca:=HA.out w6 hm
      clear q0 k6 KK x6 hm hX
      by_cases ha:al k=true
      · simp only [ha] at ca
        have cm:=must_t
        go_wp2_with (first
         | (with_reducible (refine id (?_:wpList _ _ _ _ _ _));refine wpList_clo rfl ca HX0.out _ _ rfl rfl ?_;clear ca;rintro e w7 ⟨rfl,hI7,hj⟩;refine .inl ⟨_,rfl,?_⟩)
         | (go_at_call 65;refine (cm _).mono ?_;clear cm;rintro e w8 ⟨rfl,hw⟩;obtain rfl:=hw.symm))
        go_roundw
        case rel=>exact ⟨k+1,by omega,by go_num,hI7 trivial,by rw [allU,hal,ha];simp [hbd]⟩
        case measure=>simp [intOf];omega
      · replace ha:al k=false:=by simpa using ha
        have hno:¬(allU (fun k=>!bd k && al k) cnt=true∧endD L rn=0):=fun h=>by rw [allU_false (k:=k) (by rw [ha,Bool.and_false]) hlt] at h;cases h.1
        simp only [ha] at ca
        have cm:=must_f
        go_wp2_with (first
         | (with_reducible (refine id (?_:wpList _ _ _ _ _ _));refine wpList_clo rfl ca HX0.out _ _ rfl rfl ?_;clear ca;rintro e w7 ⟨rfl,-,hj⟩;refine .inl ⟨_,rfl,?_⟩)
         | (go_at_call 65;refine (cm _).mono ?_;clear cm;rintro e w8 ⟨rfl,hw⟩;obtain rfl:=hw.symm))
        exact doorL w w7 _ Pst hj rfl rfl (fun w' hb=>by rw [HP.out];exact ⟨hb,by unfold GetA;rw [if_neg hno]⟩)
  · obtain rfl:k=cnt:=by omega
    obtain ⟨R9,cs,r9,d9⟩:=FN.out wr hI
    have hj:=ST.out.j k wr hI
    have hj':=hj
    obtain ⟨-,-,-,e9,b9⟩:=hj'
    have ce:=cEnd_any _ _ g L B rn wr R9
    by_cases he:endD L rn=0
    · rw [he] at ce
      obtain ⟨hlc,h1c⟩:=HDl.out wr cs d9
      have hi1:(Try.prog.info? 26).map (·.size)=some cs.length:=by rw [hlc];exact infoL
      have hi2:(Try.prog.info? 26).map (·.size)=some cs.toArray.size:=by rw [List.size_toArray,hlc];exact infoL
      have rr:=r9.range
      have tt:wr.there w.heap.size 0 cs.toArray.size:=by rw [List.size_toArray];exact r9.there
      have cm:=must_t
      have X2:Rest [w.heap.size,w.heap.size+1] wr (wr.setCells w.heap.size 0 cs):=Rest.of_out (Out.setCells (b:=w.heap.size) (o:=0) (n:=cs.length) wr _ (Nat.le_refl _) (Nat.le_refl _)) (by simp)
      have r10:=r9.stored cs rfl
      have e10:=e9.far w.heap.size 0 cs (.inl (by omega))
      have c10:=e10.cell (o:=0) rfl
      have z10:=e10.live (o:=0) (by simp)
      have X3:Rest [w.heap.size+1] (wr.setCells w.heap.size 0 cs) ((wr.setCells w.heap.size 0 cs).setCell ⟨w.heap.size+1,0,none⟩ (.int .i64 0)):=Rest.setCell _ _ (by simp)
      have r11:=r10.rest X3 (by simp)
      have e11:=e10.set1 (o:=0) (by simp) (.int .i64 0)
      have d11:=HD.out _ _ cs d9 (X2.trans (X3.mono (fun y hy=>by simp at hy;simp [hy])))
      have b11:=b9.trans ((X2.trans (X3.mono (fun y hy=>by simp at hy;simp [hy]))).below (fun x hx=>by simp at hx;omega) b9.size)
      have Z:=Hid.mk' (And.intro r11 (And.intro e11 (And.intro d11 b11)))
      clear X2 X3 r10 e10 r11 e11 d11 b11 d9 hI
      go_wp2_with (first
       | (go_at_call 69;refine ce.mono ?_;clear ce;rintro e w7 ⟨rfl,hw⟩;obtain rfl:=hw.symm)
       | (go_at_call 65;refine (cm _).mono ?_;clear cm;rintro e w8 ⟨rfl,hw⟩;obtain rfl:=hw.symm)
       | (with_reducible (refine id (?_:wpList _ _ _ _ _ _));refine wpList_load_mid rfl 26 _ rfl w.heap.size 0 rfl cs _ rr Try.underlying26 rfl hi1 ?_)
       | (with_reducible (refine id (?_:wpList _ _ _ _ _ _));refine wpList_store_mid rfl 26 _ _ rfl w.heap.size 0 cs.toArray rfl rfl tt hi2 h1c ?_))
      obtain ⟨r11,e11,d11,b11⟩:=Z.out
      generalize (wr.setCells w.heap.size 0 cs).setCell ⟨w.heap.size+1,0,none⟩ (.int .i64 0)=W9 at *
      refine leaves_cons (f:=67) (args:=#[pA w.heap.size 0,pA (w.heap.size+1) 0]) (by simp) (by simp [go_sem]) ?_
      refine (idleL w.heap.size (w.heap.size+1) _).mono ?_
      rintro e u' w'' ⟨rfl,rfl,hw⟩
      obtain rfl:=hw.symm
      show Leaves _ _ _ _ [] (settle .returning) _
      refine ⟨_,results_two Try.results40 _ W9 w.heap.size cs _ (w.heap.size+1) 0 rfl rfl r11.range Try.underlying26 rfl hi1 (ldErr W9 _ 0 (e11.cell (o:=0) rfl)),?_⟩
      rw [HP.out]
      exact ⟨b11,by unfold GetA;rw [if_pos ⟨hal,he⟩];exact ⟨cs,rfl,d11⟩⟩
    · have hno:¬(allU (fun k=>!bd k && al k) k=true∧endD L rn=0):=fun h=>he h.2
      have hed:(endD L rn == 0)=false:=by simpa using he
      generalize endD L rn=en at *
      have cm:=must_f
      go_wp2_with (first
       | (go_at_call 69;refine ce.mono ?_;clear ce;rintro e w7 ⟨rfl,hw⟩;obtain rfl:=hw.symm)
       | (go_at_call 65;refine (cm _).mono ?_;clear cm;rintro e w8 ⟨rfl,hw⟩;obtain rfl:=hw.symm))
      exact doorL w wr _ Pst hj rfl rfl (fun w' hb=>by rw [HP.out];exact ⟨hb,by unfold GetA;rw [if_neg hno]⟩)
end Go.Proofs.Ytgdcmibdjiaofaa
namespace Go.Proofs.Ytgdcmibdjiaofaa
open Go.RowKit
theorem enV1 (c:Array Value) (W:World):(callFunc 80 c).run Try.prog W = .ok (.enter 80 c) W:=by kernel_rfl
theorem enV3 (c:Array Value) (W:World):(callFunc 84 c).run Try.prog W = .ok (.enter 84 c) W:=by kernel_rfl
theorem enN1 (c:Array Value) (W:World):(callFunc 86 c).run Try.prog W = .ok (.enter 86 c) W:=by kernel_rfl
theorem enN3 (c:Array Value) (W:World):(callFunc 89 c).run Try.prog W = .ok (.enter 89 c) W:=by kernel_rfl
theorem enH2 (c:Array Value) (W:World):(callFunc 115 c).run Try.prog W = .ok (.enter 115 c) W:=by kernel_rfl
theorem enH4 (c:Array Value) (W:World):(callFunc 117 c).run Try.prog W = .ok (.enter 117 c) W:=by kernel_rfl
theorem enO1 (c:Array Value) (W:World):(callFunc 98 c).run Try.prog W = .ok (.enter 98 c) W:=by kernel_rfl
theorem enL1 (c:Array Value) (W:World):(callFunc 99 c).run Try.prog W = .ok (.enter 99 c) W:=by kernel_rfl
theorem enL3 (c:Array Value) (W:World):(callFunc 102 c).run Try.prog W = .ok (.enter 102 c) W:=by kernel_rfl
theorem FR.rest {X:List Nat} {w w':World} {g:Nat} {fs:List Fd} (h:FR w g fs) (hb:Rest X w w') (hn:g ∉ X):FR w' g fs:=⟨Nat.lt_of_lt_of_le h.lt hb.size,fun k f hk j v hv=>(hb.cell h.lt hn).trans (h.at_ k f hk j v hv)⟩
theorem LfAt.eq {N:Nat} {W:World} {cs:List Value} {d:LfD} {v0 v1 v2 v4 v5:Value} (h:LfAt N W cs 0 d v0 v1 v2 v4 v5) (hl:cs.length=6):cs=[v0,v1,v2,.int .i64 d.src,v4,v5]:=by
 match cs,hl with
 | [a,b,c,e,f,i],_ =>
  have h0:=h.c0;have h1:=h.c1;have h2:=h.c2;have h3:=h.c3;have h4:=h.c4;have h5:=h.c5
  simp at h0 h1 h2 h3 h4 h5
  rw [h0,h1,h2,h3,h4,h5]
theorem LfAt.lfin {N:Nat} {W:World} {cs:List Value} {o:Nat} {d:LfD} {v0 v1 v2 v4 v5:Value} (h:LfAt N W cs o d v0 v1 v2 v4 v5):LfIn W [v0,v1,v2,.int .i64 d.src,v4,v5] d :=
 ⟨v0,v1,v2,v4,v5,rfl,BytesIn.of_own h.o0,BytesIn.of_own h.o1,BytesIn.of_own h.o2,BytesIn.of_own h.o4,BytesIn.of_own h.o5⟩
theorem LfAt.one {N:Nat} {W:World} {cs:List Value} {o:Nat} {d:LfD} {v0 v1 v2 v4 v5:Value} (h:LfAt N W cs o d v0 v1 v2 v4 v5):∀ u∈[v0,v1,v2,.int .i64 d.src,v4,v5],u.oneCell'=true:=by
 obtain ⟨_,_,e0⟩:=h.o0.slice
 obtain ⟨_,_,e1⟩:=h.o1.slice
 obtain ⟨_,_,e2⟩:=h.o2.slice
 obtain ⟨_,_,e4⟩:=h.o4.slice
 obtain ⟨_,_,e5⟩:=h.o5.slice
 intro u hu
 simp at hu
 rcases hu with rfl | rfl | rfl | rfl | rfl | rfl
 · rw [e0];rfl
 · rw [e1];rfl
 · rw [e2];rfl
 · rfl
 · rw [e4];rfl
 · rw [e5];rfl
theorem leafE2 {lo hi:Nat} {w:World} {p o g:Nat} {last:Int} {f0 f1 f2 f3 f4 f5:Fd} (h:LeafFs lo hi w p o last f0 f1 f2 f3 f4 f5):∀ (k:Nat) (f:Fd),[f0,f1,f2,f3,f4,f5][k]? = some f→∀ W,(callFunc f.i2 (#[pA g 0] ++ f.c2)).run Try.prog W = .ok (.enter f.i2 (#[pA g 0] ++ f.c2)) W:=by
 obtain ⟨h0,h1,h2,h3,h4,h5⟩:=h
 obtain ⟨_,_,_,rfl,-⟩:=h0
 obtain ⟨_,_,_,rfl,-⟩:=h1
 obtain ⟨_,_,_,rfl,-⟩:=h2
 obtain ⟨_,_,_,_,rfl,-⟩:=h3
 obtain ⟨_,_,_,_,_,_,_,_,_,rfl,-⟩:=h4
 obtain ⟨_,_,_,rfl,-⟩:=h5
 intro k f hf
 match k,hf with
 | 0,hf=>cases hf;exact fun W=>enV3 _ W
 | 1,hf=>cases hf;exact fun W=>enV3 _ W
 | 2,hf=>cases hf;exact fun W=>enV3 _ W
 | 3,hf=>cases hf;exact fun W=>enN3 _ W
 | 4,hf=>cases hf;exact fun W=>enH4 _ W
 | 5,hf=>cases hf;exact fun W=>enV3 _ W
 | n+6,hf=>simp at hf
theorem lfA_rl (L:Nat) (B:Nat→Nat) (r:Rd) (last:Int):∀ k,k<6→lfA (rl L B r (k+1)).1 last k=lfA (rl L B r 6).1 last k:=by
 have e5:(rl L B r 5).1.enc=(rl L B r 4).1.enc∧(rl L B r 5).1.sig=(rl L B r 4).1.sig∧(rl L B r 5).1.name=(rl L B r 4).1.name∧(rl L B r 5).1.src=(rl L B r 4).1.src:=by
  show (if (rl L B r 4).1.src=3 then _ else rl L B r 4).1.enc=_∧(if (rl L B r 4).1.src=3 then _ else rl L B r 4).1.sig=_∧(if (rl L B r 4).1.src=3 then _ else rl L B r 4).1.name=_∧(if (rl L B r 4).1.src=3 then _ else rl L B r 4).1.src=_
  split <;> exact ⟨rfl,rfl,rfl,rfl⟩
 intro k hk
 match k with
 | 0=>show (decide ((32:Int)≤((rl L B r 1).1.enc.n:Int)) && _)=(decide ((32:Int)≤((rl L B r 5).1.enc.n:Int)) && decide (((rl L B r 5).1.enc.n:Int)≤32));rw [e5.1];rfl
 | 1=>show (decide ((32:Int)≤((rl L B r 2).1.sig.n:Int)) && _)=(decide ((32:Int)≤((rl L B r 5).1.sig.n:Int)) && decide (((rl L B r 5).1.sig.n:Int)≤32));rw [e5.2.1];rfl
 | 2=>show (decide ((1:Int)≤((rl L B r 3).1.name.n:Int)) && _)=(decide ((1:Int)≤((rl L B r 5).1.name.n:Int)) && decide (((rl L B r 5).1.name.n:Int)≤64));rw [e5.2.2.1];rfl
 | 3=>show (decide (1≤(rl L B r 4).1.src) && _)=(decide (1≤(rl L B r 5).1.src) && decide ((rl L B r 5).1.src≤last));rw [e5.2.2.2]
 | 4=>rfl
 | 5=>rfl
 | n+6=>omega
def DLf (b:Nat) (d:LfD) (W:World) (cs:List Value):Prop:=cs.length=6∧∃ N v0 v1 v2 v4 v5,b≤N∧LfAt N W cs 0 d v0 v1 v2 v4 v5
set_option maxHeartbeats 1000000 in
theorem leafHF (L:Nat) (B:Nat→Nat) (lB:∀ j,B j<256) (hL:L<140737488355000) (w:World) (g lo hi:Nat) (W:World) (k1:RW W w.heap.size 0 zeroL) (k2:RW W (w.heap.size+1) 0 [.int .i64 0]) (hlo:w.heap.size+2≤lo) (hR:RdC lo hi W g L B ⟨0,0⟩) (hb:Below w.heap.size w W) :
 Calls Try.prog 37 #[pA w.heap.size 0] W fun e w'=>∃ X gl kp fs I Mid,e = .returned (.slice (some ⟨gl,0,none⟩) 6 kp)∧fs.length=6∧I 0 w'∧Steps X fs gl g (lfA (rl L B ⟨0,0⟩ 6).1 3) (fun _=>false) I Mid (JL w)∧(∀ W,I 6 W→RdC lo hi W g L B (rl L B ⟨0,0⟩ 6).2∧∃ cs,RW W w.heap.size 0 cs∧DLf (w.heap.size+2) (rl L B ⟨0,0⟩ 6).1 W cs):=by
 refine (lf_any w.heap.size 0 W).mono fun e w1 h => ?_
 obtain ⟨v,f0,f1,f2,f3,f4,f5,rfl,hfl,hF,b1⟩:=h
 obtain ⟨gl,kp,rfl,hgl,-,-,fr⟩:=hfl.read (by simp)
 have hg:lo≤g∧g<hi∧hi≤W.heap.size:=by obtain ⟨_,_,_,_,h1,h2⟩:=hR;exact ⟨h1.1,h1.2,h2⟩
 obtain ⟨I,hI⟩:∃ I:Nat→World→Prop,I=fun k W'=>∃ cs v0 v1 v2 v4 v5,cs.length=6∧RW W' w.heap.size 0 cs∧LfAt W.heap.size W' cs 0 (rl L B ⟨0,0⟩ k).1 v0 v1 v2 v4 v5∧RdC lo hi W' g L B (rl L B ⟨0,0⟩ k).2∧RW W' (w.heap.size+1) 0 [.int .i64 0]∧Rest [w.heap.size,g] w1 W':=⟨_,rfl⟩
 have hX:∀ x,x∈[w.heap.size,g]→x<W.heap.size:=fun x hx=>by simp at hx;omega
 have hwd:∀ {W'},Rest [w.heap.size,g] w1 W'→LeafFs W.heap.size w1.heap.size W' w.heap.size 0 3 f0 f1 f2 f3 f4 f5:=fun x=>hF.map fun L h=>h.rest x (fun y hy => .inl (hX y hy))
 have hj:∀ k W',I k W'→JL w W':=fun k W' h=>by
  rw [hI] at h
  obtain ⟨cs,v0,v1,v2,v4,v5,h1,h2,h3,h4,h5,h6⟩:=h
  exact ⟨cs,h1,h2,h5,(below_next hb b1).trans (h6.below (fun x hx=>by simp at hx;omega) (below_next hb b1).size)⟩
 have hst:∀ k W' W'',I k W'→Below W'.heap.size W' W''→I k W'':=fun k W' W'' h hb=>by
  rw [hI] at h ⊢
  obtain ⟨cs,v0,v1,v2,v4,v5,h1,h2,h3,h4,h5,h6⟩:=h
  exact ⟨cs,v0,v1,v2,v4,v5,h1,h2.still hb,h3.rest (Rest.of_below (X:=[]) hb) (fun x hx=>by cases hx),h4.still hb,h5.still hb,h6.trans (Rest.of_below hb)⟩
 refine ⟨[w.heap.size,g],gl,kp,[f0,f1,f2,f3,f4,f5],I,fun k=>I (k+1),rfl,rfl,?_,⟨?_,?_,?_,?_,?_,hst,?_,hj⟩,?_⟩
 · rw [hI]
   refine ⟨zeroL,.slice none 0 0,.slice none 0 0,.slice none 0 0,.slice none 0 0,.slice none 0 0,rfl,k1.still b1,⟨rfl,rfl,rfl,rfl,rfl,rfl,Own.nil _ _ _,Own.nil _ _ _,Own.nil _ _ _,Own.nil _ _ _,Own.nil _ _ _⟩,hR.still b1,k2.still b1,Rest.refl _ _⟩
 · obtain ⟨h0,h1,h2,h3,h4,h5⟩:=hF
   obtain ⟨_,_,_,rfl,-⟩:=h0
   obtain ⟨_,_,_,rfl,-⟩:=h1
   obtain ⟨_,_,_,rfl,-⟩:=h2
   obtain ⟨_,_,_,_,rfl,-⟩:=h3
   obtain ⟨_,_,_,_,_,_,_,_,_,rfl,-⟩:=h4
   obtain ⟨_,_,_,rfl,-⟩:=h5
   intro k f hf
   match k,hf with
   | 0,hf=>cases hf;exact fun W=>enV1 _ W
   | 1,hf=>cases hf;exact fun W=>enV1 _ W
   | 2,hf=>cases hf;exact fun W=>enV1 _ W
   | 3,hf=>cases hf;exact fun W=>enN1 _ W
   | 4,hf=>cases hf;exact fun W=>enH2 _ W
   | 5,hf=>cases hf;exact fun W=>enV1 _ W
   | n+6,hf=>simp at hf
 · exact leafE2 hF
 · intro k f hf W' hIk
   have hk:k<6:=(List.getElem?_eq_some_iff.1 hf).1
   rw [hI] at hIk
   obtain ⟨cs,v0,v1,v2,v4,v5,h1,h2,h3,h4,h5,h6⟩:=hIk
   refine (leafGet lB hL k hk f hf (hwd h6) h2 (by omega) h3 h4 (.inl (by omega)) (by omega) (by omega) (by omega) (by omega) (Nat.le_trans b1.size h6.size)).mono fun e w' h => ?_
   rw [if_neg (by simp)]
   obtain ⟨a1,cs',a2,a3,a4,⟨u0,u1,u2,u4,u5,a5⟩,a6,a7⟩:=h
   refine ⟨a1,?_,a7⟩
   rw [hI]
   exact ⟨cs',u0,u1,u2,u4,u5,by omega,a4,a5,a6,h5.rest a7 (by simp;omega),h6.trans a7⟩
 · intro k W' hIk x hx
   rw [hI] at hIk
   obtain ⟨cs,v0,v1,v2,v4,v5,h1,h2,h3,h4,h5,h6⟩:=hIk
   exact Nat.lt_of_lt_of_le (hX x hx) (Nat.le_trans b1.size h6.size)
 · intro k f hf W' hm
   have hk:k<6:=(List.getElem?_eq_some_iff.1 hf).1
   have hm':=hm
   rw [hI] at hm'
   obtain ⟨cs,v0,v1,v2,v4,v5,h1,h2,h3,h4,h5,h6⟩:=hm'
   have he:=h3.eq h1
   rw [he] at h2
   have fp:=leafP (hwd h6) (by decide) h2 h3.lfin k f hf
   rw [lfA_rl L B _ 3 k hk] at fp
   exact (fp.allow W' (Below.refl _ _)).mono fun e w' ⟨a1,a2⟩=>⟨a1,fun _=>hst _ _ _ hm a2,hj _ _ (hst _ _ _ hm a2)⟩
 · intro k W' hIk
   rw [hI] at hIk
   obtain ⟨cs,v0,v1,v2,v4,v5,h1,h2,h3,h4,h5,h6⟩:=hIk
   exact fr.rest h6 (fun hx=>by have:=hX _ hx;omega)
 · intro W' hIk
   rw [hI] at hIk
   obtain ⟨cs,v0,v1,v2,v4,v5,h1,h2,h3,h4,h5,h6⟩:=hIk
   exact ⟨h4,cs,h2,h1,W.heap.size,v0,v1,v2,v4,v5,by omega,h3⟩
end Go.Proofs.Ytgdcmibdjiaofaa
namespace Go.Proofs.Ytgdcmibdjiaofaa
open Go.RowKit
theorem infoP:(Try.prog.info? 45).map (·.size)=some 3:=by kernel_rfl
def zeroP:List Value:=[.slice none 0 0,.slice none 0 0,.slice none 0 0]
set_option maxRecDepth 20000 in
theorem catchP (p q:Nat) (cs:List Value) (y:Value) (u:TypeId) (pv:Value) (older:List PanicEntry) (w:World) (hp:RW w p 0 cs) (hl:cs.length=3) (hq:RW w q 0 [y]) (hne:p≠q) :
 CallsD Try.prog 73 #[pA p 0,pA q 0] (.panicking ({ v := .iface u pv,recovered:=false } :: older)) w fun e u' w' =>
  e = .returned (.tuple #[])∧u' = .panicking ({ v := .iface u pv,recovered:=true } :: older)∧RW w' p 0 zeroP∧RW w' q 0 [.int .i64 21]∧Rest [p,q] w w':=by
 obtain ⟨W,hW⟩:∃ W,W=w.alloc (.cells #[.slice none 0 0,.slice none 0 0,.slice none 0 0] 45):=⟨_,rfl⟩
 have k1:=RW.fresh w [.slice none 0 0,.slice none 0 0,.slice none 0 0] 45
 rw [show w.alloc (.cells [.slice none 0 0,.slice none 0 0,.slice none 0 0].toArray 45)=W from hW.symm] at k1
 have b1:Below w.heap.size w W:=by rw [hW];exact (Below.refl _ _).alloc (Nat.le_refl _) _
 have HW:=Hid.mk' hW
 have hpW:=hp.still b1
 have hqW:=hq.still b1
 obtain ⟨Z,hZ⟩:∃ Z,Z=zeroP:=⟨_,rfl⟩
 have hi1:(Try.prog.info? 45).map (·.size)=some Z.length:=by rw [hZ];exact infoP
 have hi2:(Try.prog.info? 45).map (·.size)=some Z.toArray.size:=by rw [hZ];exact infoP
 have h1:Z.toArray.all (·.oneCell')=true:=by rw [hZ];simp [zeroP,Value.oneCell']
 have zl:Z.length=3:=by rw [hZ];rfl
 rw [show [.slice none 0 0,.slice none 0 0,.slice none 0 0]=Z from hZ.symm] at k1
 rw [←hZ]
 have r1:=k1.range
 have t1:W.there p 0 Z.toArray.size:=by have:=hpW.there;rw [List.size_toArray,zl];rw [hl] at this;exact this
 have X2:Rest [p,q] W (W.setCells p 0 Z):=Rest.of_out (Out.setCells (b:=p) (o:=0) (n:=Z.length) W _ (Nat.le_refl _) (Nat.le_refl _)) (by simp)
 have hp2:RW (W.setCells p 0 Z) p 0 Z:=hpW.stored _ (by rw [hl,zl])
 have hq2:=hqW.far p 0 Z (.inl (fun e=>hne e.symm))
 have c2:=hq2.cell (o:=0) rfl
 have z2:=hq2.live (o:=0) (by simp)
 have XW:Rest [p,q] w W:=Rest.of_below b1
 have hp3:=hp2.rest (Rest.setCell (X:=[q]) (b:=q) (p:=0) (W.setCells p 0 Z) (.int .i64 21) (by simp)) (by simpa using hne)
 have hq3:=hq2.set1 (o:=0) (by simp) (.int .i64 21)
 have X3:Rest [p,q] w ((W.setCells p 0 Z).setCell ⟨q,0,none⟩ (.int .i64 21)):=(XW.trans X2).trans (Rest.setCell _ _ (by simp))
 have HF:=Hid.mk' (And.intro hp3 (And.intro hq3 X3))
 clear hW hpW hqW hZ X2 hp2 hq2 XW hp3 hq3 X3
 refine callsD_of_wpS Try.func73 rfl fun c₀ cs' hu => ?_
 apply wpS_seq
 apply wpS_region
 simp [wpOpsS,go_sem,recoverD,hu,Try.ntmps73,Exit.thenS]
 refine wpS_cond (t:=true) (by simp [Act.eval,Array.replicate]) ?_
 simp only [if_true]
 refine wpS_of_wp ?_
 rw [show #[pA p 0,pA q 0] ++ ((Array.replicate 4 undef).setIfInBounds 1 (Value.iface u pv)).setIfInBounds 2 (Value.bool true)=#[pA p 0,pA q 0,undef,Value.iface u pv,.bool true,undef] from rfl]
 go_upto_region 2 with (fail)
 rw [←HW.out]
 clear hu
 go_wp2_with (first
  | (with_reducible (refine id (?_:wpList _ _ _ _ _ _));refine wpList_load_mid rfl 45 _ rfl w.heap.size 0 rfl Z _ r1 Try.underlying45 rfl hi1 ?_)
  | (with_reducible (refine id (?_:wpList _ _ _ _ _ _));refine wpList_store_mid rfl 45 _ _ rfl p 0 Z.toArray rfl rfl t1 hi2 h1 ?_))
 simp [bodyPostS,results,Try.results73]
 exact HF.out
theorem idleP (p q:Nat) (w:World) :
 CallsD Try.prog 73 #[pA p 0,pA q 0] .returning w fun e u' w'=>e = .returned (.tuple #[])∧u' = .returning∧w'=w:=by
 refine callsD_of_wpS Try.func73 rfl fun c₀ cs hu => ?_
 apply wpS_seq
 apply wpS_region
 simp [wpOpsS,go_sem,recoverD,hu,Try.ntmps73,Exit.thenS]
 refine wpS_cond (t:=false) (by simp [Act.eval,Array.replicate]) ?_
 simp only [Bool.false_eq_true,if_false]
 refine wpS_of_wp (wp_skip ?_)
 cases c₀
 simp_all [bodyPostS,results,Try.results73]
def JP (w W:World):Prop:=∃ cs,cs.length=3∧RW W w.heap.size 0 cs∧RW W (w.heap.size+1) 0 [.int .i64 0]∧Below w.heap.size w W
theorem doorP (w W:World) (tmps:Array Value) (Pst:Ending→World→Prop) (hJ:JP w W) (h4:tmps.getD 4 undef=pA w.heap.size 0) (h5:tmps.getD 5 undef=pA (w.heap.size+1) 0) (hP:∀ w',Below w.heap.size w w'→Pst (.returned (.tuple #[.agg zeroP.toArray,.int .i64 21])) w') :
 bodyPostD Try.prog Try.f47 Pst (.panic noE) { tmps:=tmps,defers:=[{ target := .fn (.func 73) #[pA w.heap.size 0,pA (w.heap.size+1) 0],args:=#[] }] } W:=by
 obtain ⟨cs,hl,r1,r2,hb⟩:=hJ
 refine leaves_cons (f:=73) (args:=#[pA w.heap.size 0,pA (w.heap.size+1) 0]) (by simp) (by simp [go_sem]) ?_
 refine (catchP w.heap.size (w.heap.size+1) cs _ 9 (.string noB) [] W r1 hl r2 (by omega)).mono ?_
 rintro e u' w'' ⟨rfl,rfl,r3,r4,x3⟩
 show Leaves _ _ _ _ [] (settle (.panicking [{ v := .iface 9 (.string noB),recovered:=true }])) w''
 refine ⟨_,results_two Try.results47 tmps w'' w.heap.size zeroP _ (w.heap.size+1) 21 h4 h5 r3.range Try.underlying45 rfl infoP (ldErr w'' _ 21 (r4.cell (o:=0) rfl)),hP w'' (hb.trans (x3.below (fun x hx=>by simp at hx;omega) hb.size))⟩
set_option maxRecDepth 20000 in
set_option maxHeartbeats 4000000 in
theorem getP_any (v:Value) (L:Nat) (B:Nat→Nat) (hL:L<140737488355000) (al bd:Nat→Bool) (cnt:Nat) (h0:0<cnt) (h1:cnt≤100) (rn:Rd) (D:World→List Value→Prop) (w:World) (hv:BytesIn w v L B)
 (hD:∀ W W' cs,D W cs→Rest [w.heap.size,w.heap.size+1] W W'→D W' cs) (hDl:∀ W cs,D W cs→cs.length=3∧cs.toArray.all (·.oneCell')=true)
 (HF:∀ g lo hi W,RW W w.heap.size 0 zeroP→RW W (w.heap.size+1) 0 [.int .i64 0]→w.heap.size+2≤lo→RdC lo hi W g L B ⟨0,0⟩→Below w.heap.size w W→Calls Try.prog 44 #[pA w.heap.size 0] W fun e w'=>∃ X gl kp fs I Mid,e = .returned (.slice (some ⟨gl,0,none⟩) cnt kp)∧fs.length=cnt∧I 0 w'∧Steps X fs gl g al bd I Mid (JP w)∧(∀ W,I cnt W→RdC lo hi W g L B rn∧∃ cs,RW W w.heap.size 0 cs∧D W cs)) :
 Calls Try.prog 47 #[v,clo 44 #[]] w fun e w'=>Below w.heap.size w w'∧GetA (allU (fun k=>!bd k && al k) cnt=true∧endD L rn=0) D zeroP e w':=by
 have hmf:∀ (fn:Fn) (first cap:Array Value) (w:World),(Instr.makeFunc fn first cap).run Try.prog w = .ok (.func fn first cap) w:=fun _ _ _ _=>rfl
 obtain ⟨V,hV⟩:∃ V,V=w.alloc (.cells #[.slice none 0 0,.slice none 0 0,.slice none 0 0] 45):=⟨_,rfl⟩
 have k1:=RW.fresh w [.slice none 0 0,.slice none 0 0,.slice none 0 0] 45
 rw [show w.alloc (.cells [.slice none 0 0,.slice none 0 0,.slice none 0 0].toArray 45)=V from hV.symm] at k1
 have b1:Below w.heap.size w V:=by rw [hV];exact (Below.refl _ _).alloc (Nat.le_refl _) _
 have s1:V.heap.size=w.heap.size+1:=by rw [hV];simp
 obtain ⟨k2,b2,s2⟩:=bx V (.int .i64 0) 28
 obtain ⟨W,hW⟩:∃ W,W=V.alloc (.cells #[.int .i64 0] 28):=⟨_,rfl⟩
 have HW:Hid (W=(w.alloc (.cells #[.slice none 0 0,.slice none 0 0,.slice none 0 0] 45)).alloc (.cells #[.int .i64 0] 28)):=Hid.mk' (by rw [hW,hV])
 rw [←hW] at k2 b2 s2
 replace k1:RW W w.heap.size 0 zeroP:=k1.still b2
 replace b1:=below_next b1 b2
 rw [s1] at k2 s2
 have S2:=Hid.mk' s2
 have cN:=cNew_any v L B hL W (hv.keep b1)
 have HF':=Hid.mk' HF
 have HD:=Hid.mk' hD
 have HDl:=Hid.mk' hDl
 have K1:=Hid.mk' k1
 have K2:=Hid.mk' k2
 obtain ⟨Pst,hP⟩:∃ Pst:Ending→World→Prop,Pst=fun e w'=>Below w.heap.size w w'∧GetA (allU (fun k=>!bd k && al k) cnt=true∧endD L rn=0) D zeroP e w':=⟨_,rfl⟩
 have HP:=Hid.mk' hP
 rw [←hP]
 clear hV hW s1 s2 HF hD hDl b2 k1 k2 hP
 go_enter_defers Try.func47,Try.ntmps47
 go_upto_region 2 with (fail)
 rw [←HW.out]
 go_wp2_with (first
  | (go_at_call 68;refine cN.mono ?_;clear cN;rintro e w1 ⟨g,rfl,R1,c1⟩;(have cF:=HF'.out g _ _ w1 (K1.out.still c1) (K2.out.still c1) (by rw [S2.out];exact Nat.le_refl _) R1 (below_next b1 c1)))
  | (go_at_call 44;refine cF.mono ?_;clear cF;rintro e w2 ⟨X,gl,kp,fs,I,Mid,rfl,hlen,i0,st,fin⟩;(have ST:=Hid.mk' st);(have FN:=Hid.mk' fin);(have HL:=Hid.mk' hlen);clear st fin hlen))
 go_loopw [15] (fun i wr=>∃ k:Nat,k≤cnt∧i = .int .i64 k∧I k wr∧allU (fun k=>!bd k && al k) k=true) (fun i _=>cnt - (intOf i).toNat)
 case atStart=>exact ⟨0,Nat.zero_le _,rfl,i0,rfl⟩
 case round =>
  clear i0 b1
  obtain ⟨k,hk,rfl,hI,hal⟩:=hrel
  by_cases hlt:k<cnt
  · have hkl:k<fs.length:=by rw [HL.out];exact hlt
    have hfk:fs[k]? = some fs[k]:=List.getElem?_eq_getElem hkl
    obtain ⟨f,hf⟩:∃ f,f=fs[k]:=⟨_,rfl⟩
    rw [←hf] at hfk
    clear hf
    have fr:=(ST.out.fr k wr hI).at_ k f hfk
    obtain ⟨i0,c0,i1,c1,i2,c2⟩:=f
    have fr':wr.rangeAt gl (k*3) [clo i0 c0,clo i1 c1,clo i2 c2]:=fr
    have hx0:=ST.out.e0 k _ hfk
    have hx2:=ST.out.e2 k _ hfk
    have HG:=Hid.mk' (ST.out.get k _ hfk)
    have HA:=Hid.mk' (ST.out.allow k _ hfk)
    have HX2:=Hid.mk' hx2
    have HX0:=Hid.mk' hx0
    clear fr hfk hx2 hx0
    have k5:=(RW.fresh wr [.nilFunc,.nilFunc,.nilFunc] 102).stored [clo i0 c0,clo i1 c1,clo i2 c2] rfl
    have b5:Below wr.heap.size wr ((wr.alloc (.cells #[.nilFunc,.nilFunc,.nilFunc] 102)).setCells wr.heap.size 0 [clo i0 c0,clo i1 c1,clo i2 c2]):=b3 (Below.refl _ _) (Nat.le_refl _) rfl
    obtain ⟨W5,hW5⟩:∃ W5,W5=(wr.alloc (.cells #[.nilFunc,.nilFunc,.nilFunc] 102)).setCells wr.heap.size 0 [clo i0 c0,clo i1 c1,clo i2 c2]:=⟨_,rfl⟩
    have HW5:=Hid.mk' hW5
    rw [←hW5] at k5 b5
    clear hW5
    go_upto_region 6 with (first
     | (with_reducible (refine id (?_:wpList _ _ _ _ _ _));refine ldF _ rfl rfl fr' ?_ rfl)
     | (with_reducible (refine id (?_:wpList _ _ _ _ _ _));refine stF _ _ rfl rfl rfl rfl th3 ?_ rfl))
    dsimp only [Act.put]
    rw [show (wr.alloc (.cells [.nilFunc,.nilFunc,.nilFunc].toArray 102)).setCells wr.heap.size 0 [clo i0 c0,clo i1 c1,clo i2 c2]=W5 from HW5.out.symm]
    clear fr'
    have q0:=k5.cell (o:=2) rfl
    have I5:=ST.out.still k wr W5 hI b5
    have hX:=ST.out.xs k wr hI
    have cg:=HG.out W5 I5
    have lw:=k5.lt
    have KK:=Hid.mk' k5
    clear hI k5 b5 HW5
    by_cases hbd:bd k=true
    · have hno:¬(allU (fun k=>!bd k && al k) cnt=true∧endD L rn=0):=fun h=>by rw [allU_false (k:=k) (by rw [hbd];rfl) hlt] at h;cases h.1
      simp only [if_pos hbd] at cg
      go_wp2_with (with_reducible (refine id (?_:wpList _ _ _ _ _ _));refine wpList_clo1 rfl cg HX2.out _ _ _ rfl rfl rfl ?_;clear cg;rintro e w6 ⟨rfl,hj⟩;refine .inr ⟨_,rfl,?_⟩)
      exact doorP w w6 _ Pst hj rfl rfl (fun w' hb=>by rw [HP.out];exact ⟨hb,by unfold GetA;rw [if_neg hno]⟩)
    · simp only [if_neg hbd] at cg
      go_upto_region 7 with (with_reducible (refine id (?_:wpList _ _ _ _ _ _));refine wpList_clo1 rfl cg HX2.out _ _ _ rfl rfl rfl ?_;clear cg;rintro e w6 ⟨rfl,hm,x6⟩;refine .inl ⟨_,rfl,?_⟩)
      have k6:=KK.out.rest x6 (fun e=>Nat.lt_irrefl _ (hX _ e))
      have q6:=k6.cell (o:=0) rfl
      have ca:=HA.out w6 hm
      clear q0 k6 KK x6 hm hX
      by_cases ha:al k=true
      · simp only [ha] at ca
        have cm:=must_t
        go_wp2_with (first
         | (with_reducible (refine id (?_:wpList _ _ _ _ _ _));refine wpList_clo rfl ca HX0.out _ _ rfl rfl ?_;clear ca;rintro e w7 ⟨rfl,hI7,hj⟩;refine .inl ⟨_,rfl,?_⟩)
         | (go_at_call 65;refine (cm _).mono ?_;clear cm;rintro e w8 ⟨rfl,hw⟩;obtain rfl:=hw.symm))
        go_roundw
        case rel=>exact ⟨k+1,by omega,by go_num,hI7 trivial,by rw [allU,hal,ha];simp [hbd]⟩
        case measure=>simp [intOf];omega
      · replace ha:al k=false:=by simpa using ha
        have hno:¬(allU (fun k=>!bd k && al k) cnt=true∧endD L rn=0):=fun h=>by rw [allU_false (k:=k) (by rw [ha,Bool.and_false]) hlt] at h;cases h.1
        simp only [ha] at ca
        have cm:=must_f
        go_wp2_with (first
         | (with_reducible (refine id (?_:wpList _ _ _ _ _ _));refine wpList_clo rfl ca HX0.out _ _ rfl rfl ?_;clear ca;rintro e w7 ⟨rfl,-,hj⟩;refine .inl ⟨_,rfl,?_⟩)
         | (go_at_call 65;refine (cm _).mono ?_;clear cm;rintro e w8 ⟨rfl,hw⟩;obtain rfl:=hw.symm))
        exact doorP w w7 _ Pst hj rfl rfl (fun w' hb=>by rw [HP.out];exact ⟨hb,by unfold GetA;rw [if_neg hno]⟩)
  · obtain rfl:k=cnt:=by omega
    obtain ⟨R9,cs,r9,d9⟩:=FN.out wr hI
    have hj:=ST.out.j k wr hI
    have hj':=hj
    obtain ⟨-,-,-,e9,b9⟩:=hj'
    have ce:=cEnd_any _ _ g L B rn wr R9
    by_cases he:endD L rn=0
    · rw [he] at ce
      obtain ⟨hlc,h1c⟩:=HDl.out wr cs d9
      have hi1:(Try.prog.info? 45).map (·.size)=some cs.length:=by rw [hlc];exact infoP
      have hi2:(Try.prog.info? 45).map (·.size)=some cs.toArray.size:=by rw [List.size_toArray,hlc];exact infoP
      have rr:=r9.range
      have tt:wr.there w.heap.size 0 cs.toArray.size:=by rw [List.size_toArray];exact r9.there
      have cm:=must_t
      have X2:Rest [w.heap.size,w.heap.size+1] wr (wr.setCells w.heap.size 0 cs):=Rest.of_out (Out.setCells (b:=w.heap.size) (o:=0) (n:=cs.length) wr _ (Nat.le_refl _) (Nat.le_refl _)) (by simp)
      have r10:=r9.stored cs rfl
      have e10:=e9.far w.heap.size 0 cs (.inl (by omega))
      have c10:=e10.cell (o:=0) rfl
      have z10:=e10.live (o:=0) (by simp)
      have X3:Rest [w.heap.size+1] (wr.setCells w.heap.size 0 cs) ((wr.setCells w.heap.size 0 cs).setCell ⟨w.heap.size+1,0,none⟩ (.int .i64 0)):=Rest.setCell _ _ (by simp)
      have r11:=r10.rest X3 (by simp)
      have e11:=e10.set1 (o:=0) (by simp) (.int .i64 0)
      have d11:=HD.out _ _ cs d9 (X2.trans (X3.mono (fun y hy=>by simp at hy;simp [hy])))
      have b11:=b9.trans ((X2.trans (X3.mono (fun y hy=>by simp at hy;simp [hy]))).below (fun x hx=>by simp at hx;omega) b9.size)
      have Z:=Hid.mk' (And.intro r11 (And.intro e11 (And.intro d11 b11)))
      clear X2 X3 r10 e10 r11 e11 d11 b11 d9 hI
      go_wp2_with (first
       | (go_at_call 69;refine ce.mono ?_;clear ce;rintro e w7 ⟨rfl,hw⟩;obtain rfl:=hw.symm)
       | (go_at_call 65;refine (cm _).mono ?_;clear cm;rintro e w8 ⟨rfl,hw⟩;obtain rfl:=hw.symm)
       | (with_reducible (refine id (?_:wpList _ _ _ _ _ _));refine wpList_load_mid rfl 45 _ rfl w.heap.size 0 rfl cs _ rr Try.underlying45 rfl hi1 ?_)
       | (with_reducible (refine id (?_:wpList _ _ _ _ _ _));refine wpList_store_mid rfl 45 _ _ rfl w.heap.size 0 cs.toArray rfl rfl tt hi2 h1c ?_))
      obtain ⟨r11,e11,d11,b11⟩:=Z.out
      generalize (wr.setCells w.heap.size 0 cs).setCell ⟨w.heap.size+1,0,none⟩ (.int .i64 0)=W9 at *
      refine leaves_cons (f:=73) (args:=#[pA w.heap.size 0,pA (w.heap.size+1) 0]) (by simp) (by simp [go_sem]) ?_
      refine (idleP w.heap.size (w.heap.size+1) _).mono ?_
      rintro e u' w'' ⟨rfl,rfl,hw⟩
      obtain rfl:=hw.symm
      show Leaves _ _ _ _ [] (settle .returning) _
      refine ⟨_,results_two Try.results47 _ W9 w.heap.size cs _ (w.heap.size+1) 0 rfl rfl r11.range Try.underlying45 rfl hi1 (ldErr W9 _ 0 (e11.cell (o:=0) rfl)),?_⟩
      rw [HP.out]
      exact ⟨b11,by unfold GetA;rw [if_pos ⟨hal,he⟩];exact ⟨cs,rfl,d11⟩⟩
    · have hno:¬(allU (fun k=>!bd k && al k) k=true∧endD L rn=0):=fun h=>he h.2
      have hed:(endD L rn == 0)=false:=by simpa using he
      generalize endD L rn=en at *
      have cm:=must_f
      go_wp2_with (first
       | (go_at_call 69;refine ce.mono ?_;clear ce;rintro e w7 ⟨rfl,hw⟩;obtain rfl:=hw.symm)
       | (go_at_call 65;refine (cm _).mono ?_;clear cm;rintro e w8 ⟨rfl,hw⟩;obtain rfl:=hw.symm))
      exact doorP w wr _ Pst hj rfl rfl (fun w' hb=>by rw [HP.out];exact ⟨hb,by unfold GetA;rw [if_neg hno]⟩)
end Go.Proofs.Ytgdcmibdjiaofaa
namespace Go.Proofs.Ytgdcmibdjiaofaa
open Go.RowKit
def PrIn (w:World) (cs:List Value) (d:PrD):Prop:=∃ v0 v1 v2,cs=[v0,v1,v2]∧BytesIn w v0 d.enc.n d.enc.b∧BytesIn w v1 d.hash.n d.hash.b∧ZIn w v2 d.um
theorem PrIn.keep {w w':World} {cs:List Value} {d:PrD} (h:PrIn w cs d) (hb:Below w.heap.size w w'):PrIn w' cs d:=by
 obtain ⟨v0,v1,v2,e,h0,h1,h2⟩:=h
 exact ⟨v0,v1,v2,e,h0.keep hb,h1.keep hb,h2.keep hb⟩
def PkIn (w:World) (cs:List Value) (d:PkD):Prop:=∃ v0 l v7,cs=v0 :: (l ++ [v7])∧BytesIn w v0 d.init.n d.init.b∧LfIn w l d.leaf∧BytesIn w v7 d.sg.n d.sg.b
theorem PkIn.keep {w w':World} {cs:List Value} {d:PkD} (h:PkIn w cs d) (hb:Below w.heap.size w w'):PkIn w' cs d:=by
 obtain ⟨v0,l,v7,e,h0,h1,h2⟩:=h
 exact ⟨v0,l,v7,e,h0.keep hb,h1.keep hb,h2.keep hb⟩
theorem vcL_small {n:Nat} (h:n≤65536):vcL n≤70000:=by have:=lnS_pos n;unfold vcL;omega
theorem parP {lo hi:Nat} {w:World} {p:Nat} {f0 f1 f2:Fd} (h:ParFs lo hi w p f0 f1 f2) {cs:List Value} {d:PrD} (hr:RW w p 0 cs) (hd:PrIn w cs d) (hl:d.um.length<140737488355000):∀ i f,[f0,f1,f2][i]? = some f→FieldPut w f (prA d i) (prN d i) (prB d i):=by
 obtain ⟨v0,v1,v2,rfl,h0,h1,h2⟩:=hd
 intro i f hi
 match i,hi with
 | 0,hi=>cases hi;exact vecP h.e0 (hr.cell (o:=0) rfl) hr.lt h0 (by decide)
 | 1,hi=>cases hi;exact honP h.e1 (hr.cell (o:=1) rfl) hr.lt h1
 | 2,hi=>cases hi;exact lnP h.e2 (hr.cell (o:=2) rfl) h2 hl
 | n+3,hi=>simp at hi
theorem pr_small {d:PrD}:∀ i,i<3→prA d i=true→prN d i≤70000:=by
 intro i hi ha
 match i with
 | 0=>simp only [prA,Bool.and_eq_true,decide_eq_true_eq] at ha;exact vcL_small (by omega)
 | 1=>simp only [prA,Bool.or_eq_true,decide_eq_true_eq] at ha;exact vcL_small (by omega)
 | 2=>have:=risU_len (show risU d.um d.um.length=true from ha);exact vcL_small (by omega)
 | n+3=>omega
def prLen (d:PrD):Nat:=sumN (prN d) 3
def prByt (d:PrD):Nat→Nat:=allB (prN d) (prB d) 3
set_option maxRecDepth 20000 in
set_option maxHeartbeats 1000000 in
theorem putParent_any (cs:List Value) (d:PrD) (w:World) (hd:PrIn w cs d) (hl:d.um.length<140737488355000):Calls Try.prog 20 #[.agg cs.toArray] w fun e w'=>Below w.heap.size w w'∧PutA (prR d) (prLen d) (prByt d) e w':=by
 have hd':=hd
 obtain ⟨v0,v1,v2,rfl,-⟩:=hd
 have k1:=RW.fresh w [v0,v1,v2] 45
 have b1:Below w.heap.size w (w.alloc (.cells #[v0,v1,v2] 45)):=(Below.refl _ _).alloc (Nat.le_refl _) _
 obtain ⟨W,hW⟩:∃ W,W=w.alloc (.cells #[v0,v1,v2] 45):=⟨_,rfl⟩
 rw [show w.alloc (.cells [v0,v1,v2].toArray 45)=W from hW.symm] at k1
 rw [←hW] at b1
 have HW:=Hid.mk' hW
 have cl:=pf_any w.heap.size W
 have hdW:=Hid.mk' (hd'.keep b1)
 have K1:=Hid.mk' k1
 clear hW hd' k1
 go_enter Try.func20,Try.ntmps20
 go_upto_region 1 with (fail)
 rw [←HW.out]
 go_wp2_with (first
  | (go_at_call 44;refine cl.mono ?_;clear cl;rintro e w1 ⟨v,f0,f1,f2,rfl,g1,g2,c1⟩;(have cp:=put_any _ v _ (prA d) (prN d) (prB d) w1 g1 (by simp) (by simp) pr_small (parP g2 (K1.out.still c1) (hdW.out.keep c1) hl)))
  | (go_at_call 36;refine cp.mono ?_;clear cp;rintro e w2 ⟨c2,hA⟩;(replace hA:=Hid.mk' (putA (pr_all d) hA));obtain ⟨s,z,rfl⟩:=hA.out.form))
 go_ret2
 exact ⟨below_next (below_next b1 c1) c2,hA.out⟩
theorem pkgP {lo hi:Nat} {w:World} {p p1 p2:Nat} {fv fs fi f0 f1 f2 f3 f4 f5 fg:Fd} (h:PkgFs lo hi w p p1 p2 fv fs fi f0 f1 f2 f3 f4 f5 fg) (r1:RW w p1 0 [.int .i64 1]) (r2:RW w p2 0 [.int .i64 1]) {cs:List Value} {d:PkD} (hr:RW w p 0 cs) (hd:PkIn w cs d):∀ i f,[fv,fs,fi,f0,f1,f2,f3,f4,f5,fg][i]? = some f→FieldPut w f (pkA d i) (pkN d i) (pkB d i):=by
 obtain ⟨v0,l,v7,rfl,h0,h1,h2⟩:=hd
 have hl:l.length=6:=by obtain ⟨_,_,_,_,_,rfl,-⟩:=h1;rfl
 have rl:RW w p 1 l:=((show RW w p 0 ([v0] ++ (l ++ [v7])) from hr).right).left
 have c7:w.cell? ⟨p,7,none⟩=some v7:=hr.cell (by rw [List.getElem?_cons_succ,List.getElem?_append_right (by omega),hl];rfl)
 have L:=leafP h.el (by decide) rl h1
 intro i f hi
 match i,hi with
 | 0,hi=>cases hi;exact numP (s:=2) h.ev (r1.cell (o:=0) rfl) r1.lt (by decide) rfl (by decide)
 | 1,hi=>cases hi;exact numP (s:=2) h.es (r2.cell (o:=0) rfl) r2.lt (by decide) rfl (by decide)
 | 2,hi=>cases hi;exact vecP h.ei (hr.cell (o:=0) rfl) hr.lt h0 (by decide)
 | 3,hi=>cases hi;exact L 0 _ rfl
 | 4,hi=>cases hi;exact L 1 _ rfl
 | 5,hi=>cases hi;exact L 2 _ rfl
 | 6,hi=>cases hi;exact L 3 _ rfl
 | 7,hi=>cases hi;exact L 4 _ rfl
 | 8,hi=>cases hi;exact L 5 _ rfl
 | 9,hi=>cases hi;exact vecP h.eg c7 hr.lt h2 (by decide)
 | n+10,hi=>simp at hi
theorem pk_small {d:PkD}:∀ i,i<10→pkA d i=true→pkN d i≤70000:=by
 intro i hi ha
 match i with
 | 0=>show 2≤_;omega
 | 1=>show 2≤_;omega
 | 2=>simp only [pkA,Bool.and_eq_true,decide_eq_true_eq] at ha;exact vcL_small (by omega)
 | 3=>exact lf_small (last:=1) 0 (by omega) ha
 | 4=>exact lf_small (last:=1) 1 (by omega) ha
 | 5=>exact lf_small (last:=1) 2 (by omega) ha
 | 6=>exact lf_small (last:=1) 3 (by omega) ha
 | 7=>exact lf_small (last:=1) 4 (by omega) ha
 | 8=>exact lf_small (last:=1) 5 (by omega) ha
 | 9=>simp only [pkA,Bool.and_eq_true,decide_eq_true_eq] at ha;exact vcL_small (by omega)
 | n+10=>omega
def pkLen (d:PkD):Nat:=sumN (pkN d) 10
def pkByt (d:PkD):Nat→Nat:=allB (pkN d) (pkB d) 10
set_option maxRecDepth 20000 in
set_option maxHeartbeats 1000000 in
theorem putPackage_any (cs:List Value) (d:PkD) (w:World) (hd:PkIn w cs d):Calls Try.prog 26 #[.agg cs.toArray] w fun e w'=>Below w.heap.size w w'∧PutA (pkR d) (pkLen d) (pkByt d) e w':=by
 have hd':=hd
 obtain ⟨v0,l,v7,rfl,-,⟨u0,u1,u2,u4,u5,rfl,-⟩,-⟩:=hd
 obtain ⟨src,hsrc⟩:∃ src,src=d.leaf.src:=⟨_,rfl⟩
 rw [←hsrc] at hd' ⊢
 have k1:=RW.fresh w [v0,u0,u1,u2,.int .i64 src,u4,u5,v7] 58
 have b1:Below w.heap.size w (w.alloc (.cells #[v0,u0,u1,u2,.int .i64 src,u4,u5,v7] 58)):=(Below.refl _ _).alloc (Nat.le_refl _) _
 obtain ⟨W,hW⟩:∃ W,W=w.alloc (.cells #[v0,u0,u1,u2,.int .i64 src,u4,u5,v7] 58):=⟨_,rfl⟩
 rw [show w.alloc (.cells [v0,u0,u1,u2,.int .i64 src,u4,u5,v7].toArray 58)=W from hW.symm] at k1
 rw [←hW] at b1
 have HW:=Hid.mk' hW
 have cl:=kf_any w.heap.size W
 have hdW:Hid (PkIn W [v0,u0,u1,u2,.int .i64 src,u4,u5,v7] d):=Hid.mk' (hd'.keep b1)
 have K1:=Hid.mk' k1
 show Calls Try.prog 26 #[.agg #[v0,u0,u1,u2,.int .i64 src,u4,u5,v7]] w _
 clear hW hd' k1 hsrc
 go_enter Try.func26,Try.ntmps26
 go_upto_region 1 with (fail)
 rw [←HW.out]
 go_wp2_with (first
  | (go_at_call 50;refine cl.mono ?_;clear cl;rintro e w1 ⟨v,fv,fs,fi,f0,f1,f2,f3,f4,f5,fg,rfl,g1,g2,r1,r2,-,c1⟩;(have cp:=put_any _ v _ (pkA d) (pkN d) (pkB d) w1 g1 (by simp) (by simp) pk_small (pkgP g2 r1 r2 (K1.out.still c1) (hdW.out.keep c1))))
  | (go_at_call 36;refine cp.mono ?_;clear cp;rintro e w2 ⟨c2,hA⟩;(replace hA:=Hid.mk' (putA (pk_all d) hA));obtain ⟨s,z,rfl⟩:=hA.out.form))
 go_ret2
 exact ⟨below_next (below_next b1 c1) c2,hA.out⟩
end Go.Proofs.Ytgdcmibdjiaofaa
namespace Go.Proofs.Ytgdcmibdjiaofaa
open Go.RowKit
def rpS (L:Nat) (B:Nat→Nat) (p:PrD × Rd):Nat→PrD × Rd
 | 0=>({ p.1 with enc:=vx L B p.2 },(vecD L B p.2).2)
 | 1=>({ p.1 with hash:=vx L B p.2 },(vecD L B p.2).2)
 | _=>({ p.1 with um:=l4 (vx L B p.2).b ((vx L B p.2).n / 4) },(vecD L B p.2).2)
def rp (L:Nat) (B:Nat→Nat) (r:Rd):Nat→PrD × Rd
 | 0=>(⟨tx0,tx0,[]⟩,r)
 | k+1=>rpS L B (rp L B r k) k
def rpB (L:Nat) (B:Nat→Nat) (r:Rd) (k:Nat):Bool:=decide (k=2) && !decide ((vx L B (rp L B r 2).2).n%4=0)
structure PrAt (N:Nat) (W:World) (cs:List Value) (d:PrD) (v0 v1 v2:Value):Prop where
 c0:cs=[v0,v1,v2]
 o0:Own N W v0 d.enc.n d.enc.b
 o1:Own N W v1 d.hash.n d.hash.b
 o2:OwnZ N W v2 d.um
theorem PrAt.rest {N:Nat} {X:List Nat} {W W':World} {cs:List Value} {d:PrD} {v0 v1 v2:Value} (h:PrAt N W cs d v0 v1 v2) (hr:Rest X W W') (hX:∀ x,x∈X→x<N):PrAt N W' cs d v0 v1 v2 :=
 ⟨h.c0,own_rest h.o0 hr hX,own_rest h.o1 hr hX,own_rest h.o2 hr hX⟩
def DPr (b:Nat) (d:PrD) (W:World) (cs:List Value):Prop:=∃ N v0 v1 v2,b≤N∧PrAt N W cs d v0 v1 v2
theorem PrAt.prin {N:Nat} {W:World} {cs:List Value} {d:PrD} {v0 v1 v2:Value} (h:PrAt N W cs d v0 v1 v2):PrIn W cs d:=⟨v0,v1,v2,h.c0,BytesIn.of_own h.o0,BytesIn.of_own h.o1,h.o2.zin⟩
theorem prA_rp (L:Nat) (B:Nat→Nat) (r:Rd):∀ k,k<3→prA (rp L B r (k+1)).1 k=prA (rp L B r 3).1 k:=by
 intro k hk
 match k with
 | 0=>rfl
 | 1=>rfl
 | 2=>rfl
 | n+3=>omega
theorem rp_len (L:Nat) (B:Nat→Nat) (r:Rd) (k:Nat) (hk:k≤3):(rp L B r k).1.um.length<140737488355000:=by
 match k,hk with
 | 0,_=>show (0:Nat)<_;decide
 | 1,_=>show (0:Nat)<_;decide
 | 2,_=>show (0:Nat)<_;decide
 | 3,_ =>
  have:=vecD_le L B (rp L B r 2).2
  show (l4 (vx L B (rp L B r 2).2).b ((vx L B (rp L B r 2).2).n / 4)).length<_
  rw [l4_len]
  show (vecD L B (rp L B r 2).2).1 / 4<_
  omega
 | n+4,h=>omega
set_option maxHeartbeats 1000000 in
theorem parHF (L:Nat) (B:Nat→Nat) (lB:∀ j,B j<256) (hL:L<140737488355000) (w:World) (g lo hi:Nat) (W:World) (k1:RW W w.heap.size 0 zeroP) (k2:RW W (w.heap.size+1) 0 [.int .i64 0]) (hlo:w.heap.size+2≤lo) (hR:RdC lo hi W g L B ⟨0,0⟩) (hb:Below w.heap.size w W) :
 Calls Try.prog 44 #[pA w.heap.size 0] W fun e w'=>∃ X gl kp fs I Mid,e = .returned (.slice (some ⟨gl,0,none⟩) 3 kp)∧fs.length=3∧I 0 w'∧Steps X fs gl g (prA (rp L B ⟨0,0⟩ 3).1) (rpB L B ⟨0,0⟩) I Mid (JP w)∧(∀ W,I 3 W→RdC lo hi W g L B (rp L B ⟨0,0⟩ 3).2∧∃ cs,RW W w.heap.size 0 cs∧DPr (w.heap.size+2) (rp L B ⟨0,0⟩ 3).1 W cs):=by
 refine (pf_any w.heap.size W).mono fun e w1 h => ?_
 obtain ⟨v,f0,f1,f2,rfl,hfl,hF,b1⟩:=h
 obtain ⟨gl,kp,rfl,hgl,-,-,fr⟩:=hfl.read (by simp)
 have hg:lo≤g∧g<hi∧hi≤W.heap.size:=by obtain ⟨_,_,_,_,h1,h2⟩:=hR;exact ⟨h1.1,h1.2,h2⟩
 obtain ⟨I,hI⟩:∃ I:Nat→World→Prop,I=fun k W'=>k≤3∧∃ cs v0 v1 v2,RW W' w.heap.size 0 cs∧PrAt W.heap.size W' cs (rp L B ⟨0,0⟩ k).1 v0 v1 v2∧RdC lo hi W' g L B (rp L B ⟨0,0⟩ k).2∧RW W' (w.heap.size+1) 0 [.int .i64 0]∧Rest [w.heap.size,g] w1 W':=⟨_,rfl⟩
 have hX:∀ x,x∈[w.heap.size,g]→x<W.heap.size:=fun x hx=>by simp at hx;omega
 have hwd:∀ {W'},Rest [w.heap.size,g] w1 W'→ParFs W.heap.size w1.heap.size W' w.heap.size f0 f1 f2:=fun x=>⟨hF.e0.map fun L h=>h.rest x (fun y hy => .inl (hX y hy)),hF.e1.map fun L h=>h.rest x (fun y hy => .inl (hX y hy)),hF.e2.map fun L h=>h.rest x (fun y hy => .inl (hX y hy))⟩
 have hbw:∀ {W'},Rest [w.heap.size,g] w1 W'→Below w.heap.size w W':=fun h6=>(below_next hb b1).trans (h6.below (fun x hx=>by simp at hx;omega) (below_next hb b1).size)
 have hj:∀ k W',I k W'→JP w W':=fun k W' h=>by
  rw [hI] at h
  obtain ⟨hk,cs,v0,v1,v2,h2,h3,h4,h5,h6⟩:=h
  exact ⟨cs,by rw [h3.c0];rfl,h2,h5,hbw h6⟩
 have hst:∀ k W' W'',I k W'→Below W'.heap.size W' W''→I k W'':=fun k W' W'' h hb=>by
  rw [hI] at h ⊢
  obtain ⟨hk,cs,v0,v1,v2,h2,h3,h4,h5,h6⟩:=h
  exact ⟨hk,cs,v0,v1,v2,h2.still hb,h3.rest (Rest.of_below (X:=[]) hb) (fun x hx=>by cases hx),h4.still hb,h5.still hb,h6.trans (Rest.of_below hb)⟩
 refine ⟨[w.heap.size,g],gl,kp,[f0,f1,f2],I,fun k=>I (k+1),rfl,rfl,?_,⟨?_,?_,?_,?_,?_,hst,?_,hj⟩,?_⟩
 · rw [hI]
   exact ⟨by omega,zeroP,.slice none 0 0,.slice none 0 0,.slice none 0 0,k1.still b1,⟨rfl,Own.nil _ _ _,Own.nil _ _ _,OwnZ.nil _ _⟩,hR.still b1,k2.still b1,Rest.refl _ _⟩
 · obtain ⟨h0,h1,h2⟩:=hF
   obtain ⟨_,_,_,rfl,-⟩:=h0
   obtain ⟨_,_,rfl,-⟩:=h1
   obtain ⟨_,rfl,-⟩:=h2
   intro k f hf
   match k,hf with
   | 0,hf=>cases hf;exact fun W=>enV1 _ W
   | 1,hf=>cases hf;exact fun W=>enO1 _ W
   | 2,hf=>cases hf;exact fun W=>enL1 _ W
   | n+3,hf=>simp at hf
 · obtain ⟨h0,h1,h2⟩:=hF
   obtain ⟨_,_,_,rfl,-⟩:=h0
   obtain ⟨_,_,rfl,-⟩:=h1
   obtain ⟨_,rfl,-⟩:=h2
   intro k f hf
   match k,hf with
   | 0,hf=>cases hf;exact fun W=>enV3 _ W
   | 1,hf=>cases hf;exact fun W=>enV3 _ W
   | 2,hf=>cases hf;exact fun W=>enL3 _ W
   | n+3,hf=>simp at hf
 · intro k f hf W' hIk
   rw [hI] at hIk
   obtain ⟨hk,cs,v0,v1,v2,h2,h3,h4,h5,h6⟩:=hIk
   have hNW:W.heap.size≤W'.heap.size:=Nat.le_trans b1.size h6.size
   obtain ⟨e0,e1,e2⟩:=hwd h6
   have hcs:=h3.c0
   subst hcs
   match k,hf with
   | 0,hf =>
    cases hf
    obtain ⟨q1,q2,q3,rfl,Bx⟩:=e0
    obtain ⟨a1,a2,x1⟩:=Bx (q1,[pA w.heap.size 0]) (by simp)
    replace a1:W.heap.size≤q1:=a1
    refine (vGet q1 w.heap.size 0 lo hi g L B lB _ hL _ W' x1 h2 (by simp) h4 (.inl (by omega)) (by omega) (by omega)).mono fun e w' ⟨t1,v,t2,t3,t4,t5⟩ => ?_
    rw [if_neg (by simp [rpB])]
    refine ⟨t1,?_,t5⟩
    rw [hI]
    have h:=h3.rest t5 hX
    exact ⟨by omega,_,v,v1,v2,t2,⟨rfl,own_base t3 hNW,h.o1,h.o2⟩,t4,h5.rest t5 (by simp;omega),h6.trans t5⟩
   | 1,hf =>
    cases hf
    obtain ⟨q0,q1,rfl,Bx⟩:=e1
    obtain ⟨a1,a2,x1⟩:=Bx (q1,[pA w.heap.size 1]) (by simp)
    replace a1:W.heap.size≤q1:=a1
    refine (vGet q1 w.heap.size 1 lo hi g L B lB _ hL _ W' x1 h2 (by simp) h4 (.inl (by omega)) (by omega) (by omega)).mono fun e w' ⟨t1,v,t2,t3,t4,t5⟩ => ?_
    rw [if_neg (by simp [rpB])]
    refine ⟨t1,?_,t5⟩
    rw [hI]
    have h:=h3.rest t5 hX
    exact ⟨by omega,_,v0,v,v2,t2,⟨rfl,h.o0,own_base t3 hNW,h.o2⟩,t4,h5.rest t5 (by simp;omega),h6.trans t5⟩
   | 2,hf =>
    cases hf
    obtain ⟨q1,rfl,Bx⟩:=e2
    obtain ⟨a1,a2,x1⟩:=Bx (q1,[pA w.heap.size 2]) (by simp)
    replace a1:W.heap.size≤q1:=a1
    refine (lGet q1 w.heap.size 2 lo hi g L B lB _ hL _ W' x1 h2 (by simp) h4 (.inl (by omega)) (by omega) (by omega)).mono fun e w' h => ?_
    rcases h with ⟨t1,t0,v,t2,t3,t4,t5⟩ | ⟨t1,t0,t2,t5⟩
    · rw [if_neg (by unfold rpB;rw [decide_eq_true (show (vx L B (rp L B ⟨0,0⟩ 2).2).n%4=0 from t0)];simp)]
      refine ⟨t1,?_,t5⟩
      rw [hI]
      have h:=h3.rest t5 hX
      exact ⟨by omega,_,v0,v1,v,t2,⟨rfl,h.o0,h.o1,own_base t3 hNW⟩,t4,h5.rest t5 (by simp;omega),h6.trans t5⟩
    · rw [if_pos (by unfold rpB;rw [decide_eq_false (show ¬(vx L B (rp L B ⟨0,0⟩ 2).2).n%4=0 from t0)];rfl)]
      exact ⟨t1,_,rfl,t2,h5.rest t5 (by simp;omega),hbw (h6.trans t5)⟩
   | n+3,hf=>simp at hf
 · intro k W' hIk x hx
   rw [hI] at hIk
   obtain ⟨hk,cs,v0,v1,v2,h2,h3,h4,h5,h6⟩:=hIk
   exact Nat.lt_of_lt_of_le (hX x hx) (Nat.le_trans b1.size h6.size)
 · intro k f hf W' hm
   have hk:k<3:=(List.getElem?_eq_some_iff.1 hf).1
   have hm':=hm
   rw [hI] at hm'
   obtain ⟨hk',cs,v0,v1,v2,h2,h3,h4,h5,h6⟩:=hm'
   have fp:=parP (hwd h6) h2 h3.prin (rp_len L B _ _ hk') k f hf
   rw [prA_rp L B _ k hk] at fp
   exact (fp.allow W' (Below.refl _ _)).mono fun e w' ⟨a1,a2⟩=>⟨a1,fun _=>hst _ _ _ hm a2,hj _ _ (hst _ _ _ hm a2)⟩
 · intro k W' hIk
   rw [hI] at hIk
   obtain ⟨hk,cs,v0,v1,v2,h2,h3,h4,h5,h6⟩:=hIk
   exact fr.rest h6 (fun hx=>by have:=hX _ hx;omega)
 · intro W' hIk
   rw [hI] at hIk
   obtain ⟨hk,cs,v0,v1,v2,h2,h3,h4,h5,h6⟩:=hIk
   exact ⟨h4,cs,h2,W.heap.size,v0,v1,v2,by omega,h3⟩
end Go.Proofs.Ytgdcmibdjiaofaa
