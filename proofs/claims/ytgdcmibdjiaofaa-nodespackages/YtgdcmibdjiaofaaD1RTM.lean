/- What the proof stands on: D1RT, D1CC, EqN, D1CG, D1CB, D1Pcs, D1Bk, D1CD, D1CH, D1CI, D1CJ, Grw. -/
import Derived.Test.YtgdcmibdjiaofaaBaseM
import Derived.Laws.Cover3
import Derived.ScopeJumps
import Derived.WalkMore
namespace Go.Proofs.Ytgdcmibdjiaofaa
open Go.RowKit
set_option maxRecDepth 20000 in
set_option maxHeartbeats 2000000 in
theorem rEndR_any (g L:Nat) (B:Nat→Nat) (r:Rd) (hL:L<140737488355000) (w:World) (h:RdR w g L B r):Calls Try.prog 43 #[.pointer (some ⟨g,0,none⟩)] w fun e w'=>e = .returned (.int .i64 (endD L r))∧Below w.heap.size w w':=by
 obtain ⟨c2,z2⟩:=h.f2
 have ha:=h.le
 have cl:=rLeft11_any g L B r hL w h
 obtain ⟨x,hx⟩:∃ x:Int,x=(L:Int) - (r.at_:Int):=⟨_,rfl⟩
 rw [←hx] at cl
 have Hh:=Hid.mk' h
 clear h
 unfold endD
 by_cases he:r.e=0
 · rw [he] at c2
   by_cases hl:r.at_<L
   · rw [if_pos ⟨he,hl⟩]
     have t1:(0:Int)<x:=by omega
     clear hx
     go_enter Try.func43,Try.ntmps43
     go_wp2_with (go_at_call 70;refine cl.mono ?_;clear cl;rintro e w1 ⟨rfl,b1⟩)
     go_ret
     exact ⟨rfl,b1⟩
   · rw [if_neg (fun e=>hl e.2)]
     have t1:¬((0:Int)<x):=by omega
     clear hx
     go_enter Try.func43,Try.ntmps43
     go_wp2_with (go_at_call 70;refine cl.mono ?_;clear cl;rintro e w1 ⟨rfl,b1⟩;have c3:=(Hh.out.keep b1).f2.1)
     go_ret
     exact ⟨by rw [he];rfl,b1⟩
 · rw [if_neg (fun e=>he e.1)]
   clear hx cl
   generalize r.e=er at *
   go_enter Try.func43,Try.ntmps43
   go_wp2
   go_ret
   exact ⟨rfl,Below.refl _ _⟩
set_option maxRecDepth 20000 in
set_option maxHeartbeats 2000000 in
theorem rTakR_err (g L:Nat) (B:Nat→Nat) (r:Rd) (n:Int) (he:r.e≠0) (w:World) (h:RdR w g L B r):Calls Try.prog 78 #[.pointer (some ⟨g,0,none⟩),.int .i64 n] w fun e w'=>e = .returned (.slice none 0 0)∧Below w.heap.size w w':=by
 have c2:=h.f2.1
 generalize r.e=er at *
 clear h
 go_enter Try.func78,Try.ntmps78
 go_wp2
 go_ret
 exact ⟨rfl,Below.refl _ _⟩
set_option maxRecDepth 20000 in
set_option maxHeartbeats 2000000 in
theorem rTakR_arg (g L:Nat) (B:Nat→Nat) (r:Rd) (n:Int) (he:r.e=0) (hn:n<0) (w:World) (h:RdR w g L B r):Calls Try.prog 78 #[.pointer (some ⟨g,0,none⟩),.int .i64 n] w fun e w'=>e = .returned (.slice none 0 0)∧RdR w' g L B ⟨r.at_,1⟩∧Out g 1 2 w w':=by
 obtain ⟨c2,z2⟩:=h.f2
 rw [he] at c2
 have Hh:=Hid.mk' h
 clear h
 go_enter Try.func78,Try.ntmps78
 go_wp2
 go_ret
 exact ⟨rfl,Hh.out.setE 1,Out.setCell _ _ (by decide) (by decide)⟩
set_option maxRecDepth 20000 in
set_option maxHeartbeats 2000000 in
theorem rTakR_end (g L:Nat) (B:Nat→Nat) (r:Rd) (n:Int) (he:r.e=0) (hn:¬n<0) (hL:L<140737488355000) (hq:(L:Int) - (r.at_:Int)<n) (w:World) (h:RdR w g L B r):Calls Try.prog 78 #[.pointer (some ⟨g,0,none⟩),.int .i64 n] w fun e w'=>e = .returned (.slice none 0 0)∧RdR w' g L B ⟨r.at_,20⟩∧Out g 1 2 w w':=by
 obtain ⟨c2,z2⟩:=h.f2
 rw [he] at c2
 have cl:=rLeft11_any g L B r hL w h
 obtain ⟨x,hx⟩:∃ x:Int,x=(L:Int) - (r.at_:Int):=⟨_,rfl⟩
 rw [←hx] at cl hq
 have Hh:=Hid.mk' h
 have gl:=h.lt
 clear h hx
 go_enter Try.func78,Try.ntmps78
 go_wp2_with (go_at_call 70;refine cl.mono ?_;clear cl;rintro e w1 ⟨rfl,b1⟩;have Hh1:=Hid.mk' (Hh.out.keep b1);obtain ⟨d2,z2'⟩:=Hh1.out.f2)
 go_ret
 exact ⟨rfl,Hh1.out.setE 20,(Out.of_below b1 gl).trans (Out.setCell _ _ (by decide) (by decide))⟩
theorem Src.mid {w:World} {v:Value} {L:Nat} {B:Nat→Nat} (hv:BytesIn w v L B) (a q n:Nat) (h1:a+n=q) (h2:q≤L):∃ xo cx x' c',v = .slice xo L cx∧(∀ W:World,(Instr.sliceAt 22 (.slice xo L cx) (some (.int .i64 a)) (some (.int .i64 q)) none).run Try.prog W = .ok (.slice x' n c') W)∧(x'=none→c'=0)∧∀ w',Below w.heap.size w w'→Src w' x' n (fun j=>B (a+j)):=by
 have u1:Try.prog.underlying 22=some (.slice (Try.prog.elem 22)):=by kernel_rfl
 have u2:Try.prog.elem 22=5:=by kernel_rfl
 have u3:∀ W,((sizeOf 5).run Try.prog W) = .ok 1 W:=fun W=>by kernel_rfl
 have e1:q - a=n:=by omega
 rcases hv with ⟨xo,rfl,rfl⟩ | ⟨bb,ob,cap,rfl,hb,hc,hcell⟩
 · obtain rfl:a=0:=by omega
   obtain rfl:n=0:=by omega
   obtain rfl:q=0:=by omega
   refine ⟨xo,0,xo,0,rfl,fun W => ?_,fun _=>rfl,fun _ _ => .inl rfl⟩
   rw [run_sliceAt_slice W 22 _ _ _ _ u1,run_slice_lh W 22 _ 0 0 u1 .i64 .i64 _ _ (by omega) (by omega) (by omega),u2,u3]
   cases xo <;> simp [sliced]
 · by_cases ha:cap=a
   · refine ⟨some ⟨bb,ob,none⟩,cap,some ⟨bb,ob,none⟩,cap - a,rfl,fun W => ?_,(fun e=>by cases e),fun _ _ => .inl (by omega)⟩
     rw [run_sliceAt_slice W 22 _ _ _ _ u1,run_slice_lh W 22 _ L cap u1 .i64 .i64 _ _ (by omega) (by omega) (by omega),u2,u3]
     simp [sliced,ha,e1]
   · refine ⟨some ⟨bb,ob,none⟩,cap,some ⟨bb,ob+a,none⟩,cap - a,rfl,fun W => ?_,(fun e=>by cases e),fun w' h => .inr ⟨bb,ob+a,rfl,fun j hj => ?_⟩⟩
     · rw [run_sliceAt_slice W 22 _ _ _ _ u1,run_slice_lh W 22 _ L cap u1 .i64 .i64 _ _ (by omega) (by omega) (by omega),u2,u3]
       simp [sliced,Addr.add_mid,ha,e1]
     · rw [Nat.add_assoc]
       exact (h.cell (p:=⟨bb,ob+(a+j),none⟩) hb).trans (hcell (a+j) (by omega))
theorem onlyV {P:Program} {md:Region.Mode} {ops:Array Oper} {Q:Exit→Act→World→Prop} {S:World→Prop} {fuel:Nat} {listed:Array Bool} {a:Act} {w:World} (i:Nat) {oi:Oper} {v:Value} {w':World} (hrun:(execOp a.eval oi).run P w = .ok (.value v) w') (hS:S w') (h:wpAnyH P md ops Q S fuel (listed.setIfInBounds i true) (a.put oi.dst v) w')
 (hi:ops.toList[i]? = some oi:=by rfl) (hr:Region.ready md ops listed=[i]:=by kernel_rfl) (hw:Region.wanted oi (yielded ops a.tmps)=true:=by rfl):wpAnyH P md ops Q S (fuel+1) listed a w:=by
 refine wpAnyH_ready hr (by simp) (AllReadyH.cons (at_list hi) (fun K hK => ?_) AllReadyH.nil)
 rw [if_pos hw]
 unfold Oper.wp
 rw [hrun,Oper.upon_value]
 exact hK.out _ _ hS (fun _=>h)
theorem exec_append {o:Oper} {a:Act} {w w':World} {v':Value} (s x:Operand) (ho:o.op = .call { callee := .builtin .append,args:=#[s,x],argTypes:=#[22,22] }) (hty:o.type=22) {sv xv:Value} (hs:a.eval s=sv) (hx:a.eval x=xv) (hrun:(Builtin.append_ #[22,22] 22 #[sv,xv]).run Try.prog w = .ok v' w'):(execOp a.eval o).run Try.prog w = .ok (.value v') w':=by
 simp [execOp,ho,hty,resolve,invoke,builtin,hs,hx,hrun,Result.andThen]
theorem exec_slice {o:Oper} {a:Act} {w w':World} {v':Value} (x lo hi:Operand) (ho:o.op = .slice 22 x (some lo) (some hi) none) {xv lv hv:Value} (hx:a.eval x=xv) (hl:a.eval lo=lv) (hh:a.eval hi=hv) (hrun:(Instr.sliceAt 22 xv (some lv) (some hv) none).run Try.prog w = .ok v' w'):(execOp a.eval o).run Try.prog w = .ok (.value v') w':=by
 simp [execOp,ho,hx,hl,hh,hrun,Result.andThen]
set_option maxRecDepth 20000 in
set_option maxHeartbeats 2000000 in
theorem rTakR_good (g L:Nat) (B:Nat→Nat) (r:Rd) (n:Nat) (he:r.e=0) (hL:L<140737488355000) (hq:r.at_+n≤L) (w:World) (h:RdR w g L B r):Calls Try.prog 78 #[.pointer (some ⟨g,0,none⟩),.int .i64 (n:Int)] w fun e w'=>∃ v,e = .returned v∧Own w.heap.size w' v n (fun j=>B (r.at_+j))∧RdR w' g L B ⟨r.at_+n,0⟩∧Out g 1 2 w w':=by
 obtain ⟨c2,z2⟩:=h.f2
 rw [he] at c2
 have cl:=rLeft11_any g L B r hL w h
 obtain ⟨x,hx⟩:∃ x:Int,x=(L:Int) - (r.at_:Int):=⟨_,rfl⟩
 rw [←hx] at cl
 have t0:¬(n:Int)<0:=by omega
 have t1:¬x<(n:Int):=by omega
 have Hh:=Hid.mk' h
 have gl:=h.lt
 obtain ⟨q,hq'⟩:∃ q,q=r.at_+n:=⟨_,rfl⟩
 have hqL:q≤L:=by omega
 have e1:IntKind.i64.wrap ((r.at_:Int)+(n:Int))=(q:Int):=by simp only [IntKind.wrap_i64];omega
 have e2:(r.at_:Int)+(n:Int)=(q:Int):=by omega
 have e3:IntKind.i64.wrap ((q:Int) - (n:Int))=(r.at_:Int):=by simp only [IntKind.wrap_i64];omega
 have e4:(q:Int) - (n:Int)=(r.at_:Int):=by omega
 rw [←hq']
 obtain ⟨a,ha⟩:∃ a,a=r.at_:=⟨_,rfl⟩
 have HA:=Hid.mk' ha
 rw [←ha] at e1 e2 e3 e4 ⊢
 clear h hx hq' ha
 go_enter Try.func78,Try.ntmps78
 go_wp2_with (go_at_call 70;refine cl.mono ?_;clear cl;rintro e w1 ⟨rfl,b1⟩;have Hh1:=Hid.mk' (Hh.out.keep b1);obtain ⟨d2,z2'⟩:=Hh1.out.f2;obtain ⟨k1,y1⟩:=Hh1.out.f1;rw [←HA.out] at k1)
 have Hh2:=Hid.mk' (Hh1.out.setAt q hqL)
 obtain ⟨W,hW⟩:∃ W,W=w1.setCell ⟨g,1,none⟩ (.int .i64 (q:Int)):=⟨_,rfl⟩
 rw [←hW] at Hh2 ⊢
 have o1:Out g 1 2 w W:=by rw [hW];exact (Out.of_below b1 gl).trans (Out.setCell _ _ (by decide) (by decide))
 clear hW k1 y1 d2 z2' Hh1
 have bd:Below W.heap.size W W.drew:=(Below.refl _ _).drew
 have Hd:=Hid.mk' (Hh2.out.keep bd)
 obtain ⟨v,rr,hv,-⟩:=Hd.out
 have haq:a+n=q:=by omega
 obtain ⟨xo,cx,x',c',rfl,hsl,hxn,hsrc⟩:=Src.mid hv a q n haq hqL
 have f0:W.drew.cell? ⟨g,0,none⟩=some (.slice xo L cx):=rr.range 0 _ rfl
 have f1:W.drew.cell? ⟨g,1,none⟩=some (.int .i64 (q:Int)):=rr.range 1 _ rfl
 have gd:=rr.lt
 have hsu:=hsrc _ ((Below.refl W.drew.heap.size W.drew).alloc (Nat.le_refl _) (.cells #[] 5))
 obtain ⟨v5,w5,hrun5,own5,hb5⟩:=run_append_empty W.drew W.drew.heap.size (fun j=>B (a+j)) x' n c' hsu hxn (by omega) (Nat.le_refl _)
 have e6:IntKind.i64.wrap (a:Int)=(a:Int):=by simp only [IntKind.wrap_i64];omega
 clear hsrc rr hv hsu
 go_upto_region 10 with (fail)
 refine wp_region_held_drew (S:=fun u=>Below W.drew.heap.size W.drew u) (by kernel_rfl) (Below.refl _ _) (fun hS => ?_)
 refine tg 1 hS ?_
 (try simp only [pS])
 refine tg 2 hS ?_
 (try simp only [pS])
 refine tg 3 hS ?_
 (try simp only [pS])
 refine tc 4 hS (fun u hu=>(hu.cell (p:=⟨g,0,none⟩) gd).trans f0) ?_
 (try simp only [pS])
 refine tg 5 hS ?_
 (try simp only [pS])
 refine tg 6 hS ?_
 (try simp only [pS])
 refine tg 7 hS ?_
 (try simp only [pS])
 refine tc 8 hS (fun u hu=>(hu.cell (p:=⟨g,1,none⟩) gd).trans f1) ?_
 (try simp only [pS])
 refine tg 9 hS ?_
 (try simp only [pS])
 refine tg 10 hS (v := .int .i64 (a:Int)) ?_
 (try simp only [pS])
 refine tg 11 hS ?_
 (try simp only [pS])
 refine tg 12 hS ?_
 (try simp only [pS])
 refine tg 13 hS ?_
 (try simp only [pS])
 refine tc 14 hS (fun u hu=>(hu.cell (p:=⟨g,1,none⟩) gd).trans f1) ?_
 (try simp only [pS])
 refine tg 15 hS (v := .slice x' n c') ?_ (hy := ?_)
 rotate_left
 · exact fun u _=>exec_slice (.tmp 38) (.tmp 44) (.tmp 48) rfl rfl rfl rfl (hsl u)
 (try simp only [pS])
 refine onlyV 0 (v := .slice (some ⟨W.drew.heap.size,0,none⟩) 0 0) (w':=W.drew.alloc (.cells #[] 5)) ?_ ((Below.refl _ _).alloc (Nat.le_refl _) _) ?_
 · kernel_rfl
 (try simp only [pS])
 refine onlyV 16 (v:=v5) ?_ hb5 ?_
 · exact exec_append (.tmp 34) (.tmp 49) rfl rfl rfl rfl hrun5
 (try simp only [pS])
 refine tg 17 hb5 ?_
 (try simp only [pS])
 refine wpAnyH_done (by kernel_rfl) ?_ _
 go_wp2
 go_ret
 have k:=Hd.out.keep hb5
 rw [he] at k
 have h1:w.heap.size≤W.drew.heap.size:=o1.size
 exact ⟨_,rfl,World.ownsRow.mono own5 h1,k,o1.trans (Out.of_below (below_next bd hb5) (Nat.lt_of_lt_of_le gl o1.size))⟩
theorem rTakR_any (g L:Nat) (B:Nat→Nat) (r:Rd) (n:Int) (hL:L<140737488355000) (w:World) (h:RdR w g L B r):Calls Try.prog 78 #[.pointer (some ⟨g,0,none⟩),.int .i64 n] w fun e w'=>∃ v,e = .returned v∧Own w.heap.size w' v (takD L n r).1 (fun j=>B (r.at_+j))∧RdR w' g L B (takD L n r).2∧Out g 1 2 w w':=by
 have ha:=h.le
 have gl:=h.lt
 unfold takD
 by_cases he:r.e≠0
 · rw [if_pos he]
   exact (rTakR_err g L B r n he w h).mono fun e w' ⟨h1,h2⟩=>⟨_,h1,Own.nil _ _ _,h.keep h2,Out.of_below h2 gl⟩
 replace he:r.e=0:=Decidable.not_not.mp he
 rw [if_neg (fun e=>e he)]
 by_cases hn:n<0
 · rw [if_pos hn]
   exact (rTakR_arg g L B r n he hn w h).mono fun e w' ⟨h1,h2,h3⟩=>⟨_,h1,Own.nil _ _ _,h2,h3⟩
 rw [if_neg hn]
 by_cases h1:(L:Int) - (r.at_:Int)<n
 · rw [if_pos h1]
   exact (rTakR_end g L B r n he hn hL h1 w h).mono fun e w' ⟨h1,h2,h3⟩=>⟨_,h1,Own.nil _ _ _,h2,h3⟩
 rw [if_neg h1]
 obtain ⟨k,rfl⟩:∃ k:Nat,n=(k:Int):=⟨n.toNat,by omega⟩
 rw [Int.toNat_natCast]
 exact rTakR_good g L B r k he hL (by omega) w h
end Go.Proofs.Ytgdcmibdjiaofaa
namespace Go.Proofs.Ytgdcmibdjiaofaa
open Go.RowKit
def BI (lo hi:Nat) (w:World) (v:Value) (n:Nat) (B:Nat→Nat):Prop:=(∃ xo,v = .slice xo 0 0∧n=0)∨∃ bb ob cap,v = .slice (some ⟨bb,ob,none⟩) n cap∧(lo≤bb∧bb<hi)∧n≤cap∧∀ j,j<n→w.cell? ⟨bb,ob+j,none⟩=some (.int .u8 (B j))
theorem BI.of {lo hi:Nat} {w:World} {v:Value} {n:Nat} {B:Nat→Nat} (h:BI lo hi w v n B) (hh:hi≤w.heap.size):BytesIn w v n B:=by
 rcases h with h | ⟨bb,ob,cap,e,hb,hc,hl⟩
 · exact .inl h
 · exact .inr ⟨bb,ob,cap,e,Nat.lt_of_lt_of_le hb.2 hh,hc,hl⟩
theorem BI.all {w:World} {v:Value} {n:Nat} {B:Nat→Nat} (h:BytesIn w v n B):BI 0 w.heap.size w v n B:=by
 rcases h with h | ⟨bb,ob,cap,e,hb,hc,hl⟩
 · exact .inl h
 · exact .inr ⟨bb,ob,cap,e,⟨Nat.zero_le _,hb⟩,hc,hl⟩
theorem BI.own {base:Nat} {w:World} {v:Value} {n:Nat} {X:Nat→Nat} (h:Own base w v n X):BI base w.heap.size w v n X:=by
 rcases h.form with ⟨rfl,rfl⟩ | ⟨g,cap,rfl,h1,h2,h3,h4⟩
 · exact .inl ⟨none,rfl,rfl⟩
 · exact .inr ⟨g,0,cap,rfl,⟨h1,h2⟩,h3,fun j hj=>(h4 j hj).1⟩
theorem BI.wide {lo hi lo' hi':Nat} {w:World} {v:Value} {n:Nat} {B:Nat→Nat} (h:BI lo hi w v n B) (h1:lo'≤lo) (h2:hi≤hi'):BI lo' hi' w v n B:=by
 rcases h with h | ⟨bb,ob,cap,e,hb,hc,hl⟩
 · exact .inl h
 · exact .inr ⟨bb,ob,cap,e,⟨by omega,by omega⟩,hc,hl⟩
theorem BI.cong {lo hi:Nat} {w:World} {v:Value} {n:Nat} {B C:Nat→Nat} (h:BI lo hi w v n B) (e:∀ j,j<n→B j=C j):BI lo hi w v n C:=by
 rcases h with h | ⟨bb,ob,cap,e',hb,hc,hl⟩
 · exact .inl h
 · exact .inr ⟨bb,ob,cap,e',hb,hc,fun j hj=>by rw [hl j hj,e j hj]⟩
theorem BI.same {lo hi:Nat} {w w':World} {v:Value} {n:Nat} {B:Nat→Nat} (h:BI lo hi w v n B) (e:∀ b o z,lo≤b→b<hi→w.cell? ⟨b,o,none⟩=some (.int .u8 z)→w'.cell? ⟨b,o,none⟩=some (.int .u8 z)):BI lo hi w' v n B:=by
 rcases h with h | ⟨bb,ob,cap,e',hb,hc,hl⟩
 · exact .inl h
 · exact .inr ⟨bb,ob,cap,e',hb,hc,fun j hj=>e _ _ _ hb.1 hb.2 (hl j hj)⟩
theorem BI.below {lo hi M:Nat} {w w':World} {v:Value} {n:Nat} {B:Nat→Nat} (h:BI lo hi w v n B) (hb:Below M w w') (hM:hi≤M):BI lo hi w' v n B :=
 h.same fun b o _ _ h2 hc=>(hb.cell (p:=⟨b,o,none⟩) (Nat.lt_of_lt_of_le h2 hM)).trans hc
theorem BI.put {lo hi:Nat} {w:World} {v:Value} {n:Nat} {B:Nat→Nat} (h:BI lo hi w v n B) {g o:Nat} {u:Value} (hc:w.cell? ⟨g,o,none⟩=some u) (hu:∀ z,u ≠ .int .u8 z) (y:Value):BI lo hi (w.setCell ⟨g,o,none⟩ y) v n B:=by
 refine h.same fun b p z _ _ hz => ?_
 by_cases e:(⟨b,p,none⟩:Addr)=⟨g,o,none⟩
 · rw [e,hc] at hz
   exact absurd (Option.some.inj hz) (hu z)
 · exact (World.cell?_setCell_other _ _ _ _ (fun h=>e h.symm)).trans hz
theorem BI.cut {lo hi:Nat} {w:World} {v:Value} {L:Nat} {B:Nat→Nat} (hv:BI lo hi w v L B) (m:Nat) (hm:m≤L):∃ xo cx x1 c1 x2 c2,v = .slice xo L cx∧(xo=none→cx=0)
 ∧ (∀ W:World,(Instr.sliceAt 22 (.slice xo L cx) none (some (.int .i64 m)) none).run Try.prog W = .ok (.slice x1 m c1) W)∧BI lo hi w (.slice x1 m c1) m B
 ∧ (∀ W:World,(Instr.sliceAt 22 (.slice xo L cx) (some (.int .i64 m)) none none).run Try.prog W = .ok (.slice x2 (L - m) c2) W)∧BI lo hi w (.slice x2 (L - m) c2) (L - m) (fun j=>B (m+j)):=by
 have u1:Try.prog.underlying 22=some (.slice (Try.prog.elem 22)):=by kernel_rfl
 have u2:Try.prog.elem 22=5:=by kernel_rfl
 have u3:∀ W,((sizeOf 5).run Try.prog W) = .ok 1 W:=fun W=>by kernel_rfl
 rcases hv with ⟨xo,rfl,rfl⟩ | ⟨bb,ob,cap,rfl,hb,hc,hcell⟩
 · obtain rfl:m=0:=by omega
   refine ⟨xo,0,xo,0,xo,0,rfl,fun _=>rfl,fun W => ?_,.inl ⟨xo,rfl,rfl⟩,fun W => ?_,.inl ⟨xo,rfl,rfl⟩⟩
   · rw [run_sliceAt_slice W 22 _ _ _ _ u1,run_slice_h W 22 _ 0 0 u1 .i64 _ (by omega) (by omega),u2,u3]
     cases xo <;> simp [sliced]
   · rw [run_sliceAt_slice W 22 _ _ _ _ u1,run_slice_l W 22 _ 0 0 u1 .i64 _ (by omega) (by omega),u2,u3]
     cases xo <;> simp [sliced]
 · have h1:∀ W:World,(Instr.sliceAt 22 (.slice (some ⟨bb,ob,none⟩) L cap) none (some (.int .i64 m)) none).run Try.prog W = .ok (.slice (some ⟨bb,ob,none⟩) m cap) W:=fun W=>by
    rw [run_sliceAt_slice W 22 _ _ _ _ u1,run_slice_h W 22 _ L cap u1 .i64 _ (by omega) (by omega),u2,u3]
    simp [sliced,Addr.add_mid]
   by_cases ha:cap=m
   · refine ⟨some ⟨bb,ob,none⟩,cap,some ⟨bb,ob,none⟩,cap,some ⟨bb,ob,none⟩,cap - m,rfl,(fun e=>by cases e),h1,.inr ⟨bb,ob,cap,rfl,hb,by omega,fun j hj=>hcell j (by omega)⟩,fun W => ?_,.inr ⟨bb,ob,cap - m,rfl,hb,by omega,fun j hj=>absurd hj (by omega)⟩⟩
     rw [run_sliceAt_slice W 22 _ _ _ _ u1,run_slice_l W 22 _ L cap u1 .i64 _ (by omega) (by omega),u2,u3]
     simp [sliced,ha]
   · refine ⟨some ⟨bb,ob,none⟩,cap,some ⟨bb,ob,none⟩,cap,some ⟨bb,ob+m,none⟩,cap - m,rfl,(fun e=>by cases e),h1,.inr ⟨bb,ob,cap,rfl,hb,by omega,fun j hj=>hcell j (by omega)⟩,fun W => ?_,.inr ⟨bb,ob+m,cap - m,rfl,hb,by omega,fun j hj=>by rw [Nat.add_assoc];exact hcell (m+j) (by omega)⟩⟩
     rw [run_sliceAt_slice W 22 _ _ _ _ u1,run_slice_l W 22 _ L cap u1 .i64 _ (by omega) (by omega),u2,u3]
     simp [sliced,Addr.add_mid,ha]
theorem u64_or_nat (a b:Nat) (ha:a<18446744073709551616) (hb:b<18446744073709551616):bits .or .u64 (a:Int) (b:Int)=((a ||| b:Nat):Int):=by
 have hx:a ||| b<2 ^ 64:=Nat.or_lt_two_pow (by omega) (by omega)
 show IntKind.u64.wrap ((BitVec.ofInt 64 (a:Int) ||| BitVec.ofInt 64 (b:Int)).toNat:Int)=_
 rw [BitVec.toNat_or,show (BitVec.ofInt 64 (a:Int)).toNat=a by simp;omega,show (BitVec.ofInt 64 (b:Int)).toNat=b by simp;omega]
 show ((a ||| b:Nat):Int)%18446744073709551616=_
 omega
theorem or_byteU (x y:Nat) (hx:x*256+y<18446744073709551616) (hy:y<256):bits .or .u64 ((x*256:Nat):Int) (y:Int)=((x*256+y:Nat):Int):=by
 have h1:x*256<18446744073709551616:=Nat.lt_of_le_of_lt (Nat.le_add_right _ _) hx
 have h2:y<18446744073709551616:=Nat.lt_of_le_of_lt (Nat.le_add_left _ _) hx
 refine (u64_or_nat _ _ h1 h2).trans ?_
 have h:=Nat.two_pow_add_eq_or_of_lt (i:=8) (b:=y) hy x
 have e:(2:Nat) ^ 8*x=x*256:=Nat.mul_comm _ _
 rw [e] at h
 exact congrArg Int.ofNat h.symm
theorem nbN_shift (B:Nat→Nat) (a:Nat):∀ s,nbN (fun j=>B (a+j)) 0 s=nbN B a s
 | 0=>rfl
 | s+1=>by
  show nbN (fun j=>B (a+j)) 0 s*256+B (a+(0+s))=nbN B a s*256+B (a+s)
  rw [nbN_shift B a s,Nat.zero_add]
theorem nbN_lt8 {B:Nat→Nat} (lB:∀ j,B j<256) (a:Nat):∀ k,k≤8→nbN B a k<18446744073709551616:=fun k hk =>
 Nat.lt_of_lt_of_le (nbN_lt lB a k) (Nat.le_trans (Nat.pow_le_pow_right (by decide) hk) (by decide))
set_option maxRecDepth 20000 in
set_option maxHeartbeats 4000000 in
theorem cJoin_any (v:Value) (s:Nat) (B:Nat→Nat) (lB:∀ j,B j<256) (hs:s≤8) (w:World) (hv:BytesIn w v s B):Calls Try.prog 112 #[v] w fun e w'=>e = .returned (.int .u64 ((nbN B 0 s:Nat):Int))∧w'=w:=by
 have hlt:=nbN_lt8 lB 0
 obtain ⟨xo,cx,rfl,-,-,-⟩:=hv.src
 go_enter Try.func112,Try.ntmps112
 go_wp2
 go_loopw [3,7] (fun n i wr=>∃ k:Nat,k≤s∧i = .int .i64 (k:Int)∧n = .int .u64 ((nbN B 0 k:Nat):Int)∧w=wr) (fun _ i _=>s - (intOf i).toNat)
 case atStart=>exact ⟨0,Nat.zero_le _,by go_num,rfl,rfl⟩
 case round =>
  obtain ⟨k,hk,rfl,rfl,rfl⟩:=hrel
  by_cases hks:k<s
  · have q1:(k:Int)<(s:Int):=by omega
    rcases hv with ⟨xo,-,h0⟩ | ⟨bb,ob,cap,e0,hbb,hc,hcell⟩
    · omega
    cases e0
    have f2:=hcell k hks
    have hx:=hlt k (by omega)
    have hx1:=hlt (k+1) (by omega)
    have hy:=lB k
    have hstep:nbN B 0 (k+1)=nbN B 0 k*256+B k:=by show nbN B 0 k*256+B (0+k)=_;rw [Nat.zero_add]
    rw [hstep] at hx1
    have e1:=or_byteU (nbN B 0 k) (B k) hx1 hy
    obtain ⟨x,hx'⟩:∃ x,x=nbN B 0 k:=⟨_,rfl⟩
    obtain ⟨y,hy'⟩:∃ y,y=B k:=⟨_,rfl⟩
    rw [←hx',←hy'] at hstep e1 hx1
    rw [←hy'] at f2 hy
    rw [←hx'] at hx ⊢
    have e3:IntKind.u64.wrap ((x:Int)*256)=((x*256:Nat):Int):=by show ((x:Int)*256)%18446744073709551616=_;omega
    have e5:IntKind.u64.wrap (y:Int)=(y:Int):=by show (y:Int)%18446744073709551616=_;omega
    have t1:(0:Int)≤(k:Int)∧(k:Int)<(s:Int):=by omega
    have Hs:=Hid.mk' hstep
    clear hx' hy' hstep hcell hlt
    go_wp2
    go_roundw
    case rel=>exact ⟨k+1,hks,by go_num,by rw [Hs.out,←e1];rfl,trivial⟩
    case measure=>simp [intOf];omega
  · obtain rfl:k=s:=by omega
    have q1:¬((k:Int)<(k:Int)):=by omega
    go_wp2
    go_ret
    exact ⟨rfl,rfl⟩
end Go.Proofs.Ytgdcmibdjiaofaa
namespace Go.Proofs.Ytgdcmibdjiaofaa
open Go.RowKit
theorem run_eql_slice_nil {P:Program} (w:World) (t e:TypeId) (a:Option Addr) (l c:Nat) (h:P.underlying t=some (.slice e)):(binOp .eql t (.slice a l c) (.slice none 0 0)).run P w = .ok (.bool a.isNone) w:=by
 simp only [binOp]
 simp [run_equal_slice_nil w t e a l c h]
theorem wpList_eqnil {ops:Array Oper} {rest:List Oper} {op:Oper} {a:Act} {w:World} {Q:Exit→Act→World→Prop} (hgd:op.guard=none) (x y:Operand) (t2:TypeId) (ho:op.op = .binOp .eql 22 x y t2) (ad:Addr) (l c:Nat)
 (hx:a.eval x = .slice (some ad) l c) (hy:a.eval y = .slice none 0 0) (h:wpList Try.prog ops Q rest (a.put op.dst (.bool false)) w):wpList Try.prog ops Q (op :: rest) a w :=
 wpList_plain hgd fun K hK=>by
  unfold Oper.wp execOp
  simp only [ho,hx,hy]
  have e:(eqGuard .eql 22 x y (.slice (some ad) l c) (.slice none 0 0)).run Try.prog w = .ok () w:=by
   simp [eqGuard]
  rw [Sem.run_bind,Sem.run_bind,e]
  simp only [Result.andThen_ok]
  rw [run_eql_slice_nil w 22 5 (some ad) l c Try.underlying22]
  exact hK _ _ h
end Go.Proofs.Ytgdcmibdjiaofaa
namespace Go.Proofs.Ytgdcmibdjiaofaa
open Go.RowKit
def RdC (lo hi:Nat) (w:World) (g L:Nat) (B:Nat→Nat) (r:Rd):Prop:=∃ v,RW w g 0 [v,.int .i64 r.e,.bool true]∧BI lo hi w v (L - r.at_) (fun j=>B (r.at_+j))∧r.at_≤L∧(lo≤g∧g<hi)∧hi≤w.heap.size
theorem RdC.keep {lo hi:Nat} {w w':World} {g L:Nat} {B:Nat→Nat} {r:Rd} (h:RdC lo hi w g L B r) (hb:Below hi w w'):RdC lo hi w' g L B r:=by
 obtain ⟨v,rw_,hv,ha,hg,hh⟩:=h
 exact ⟨v,rw_.below hb hg.2,hv.below hb (Nat.le_refl _),ha,hg,Nat.le_trans hh hb.size⟩
theorem RdC.still {lo hi:Nat} {w w':World} {g L:Nat} {B:Nat→Nat} {r:Rd} (h:RdC lo hi w g L B r) (hb:Below w.heap.size w w'):RdC lo hi w' g L B r :=
 h.keep (hb.mono h.choose_spec.2.2.2.2)
theorem RdC.lt {lo hi:Nat} {w:World} {g L:Nat} {B:Nat→Nat} {r:Rd} (h:RdC lo hi w g L B r):g<w.heap.size:=by
 obtain ⟨_,r,_⟩:=h
 exact r.lt
theorem RdC.le {lo hi:Nat} {w:World} {g L:Nat} {B:Nat→Nat} {r:Rd} (h:RdC lo hi w g L B r):r.at_≤L:=by
 obtain ⟨_,_,_,h,_⟩:=h
 exact h
theorem RdC.cells {lo hi:Nat} {w:World} {g L:Nat} {B:Nat→Nat} {r:Rd} (h:RdC lo hi w g L B r):∃ v,(w.cell? ⟨g,0,none⟩=some v∧w.frozen? ⟨g,0,none⟩=false)∧(w.cell? ⟨g,1,none⟩=some (.int .i64 r.e)∧w.frozen? ⟨g,1,none⟩=false)∧w.cell? ⟨g,2,none⟩=some (.bool true)∧BI lo hi w v (L - r.at_) (fun j=>B (r.at_+j)):=by
 obtain ⟨v,rr,hv,ha,hg,hh⟩:=h
 exact ⟨v,⟨rr.range 0 _ rfl,(rr.there 0 (by simp)).2⟩,⟨rr.range 1 _ rfl,(rr.there 1 (by simp)).2⟩,rr.range 2 _ rfl,hv⟩
theorem RdC.setE {lo hi:Nat} {w:World} {g L:Nat} {B:Nat→Nat} {r:Rd} (h:RdC lo hi w g L B r) (e:Int):RdC lo hi (w.setCell ⟨g,1,none⟩ (.int .i64 e)) g L B ⟨r.at_,e⟩:=by
 obtain ⟨v,rr,hv,ha,hg,hh⟩:=h
 exact ⟨v,rr.put 1 (by simp) _,hv.put (rr.range 1 _ rfl) (fun z e=>by cases e) _,ha,hg,by rw [World.size_setCell];exact hh⟩
theorem RdC.setR {lo hi:Nat} {w:World} {g L:Nat} {B:Nat→Nat} {r:Rd} (h:RdC lo hi w g L B r) (a:Nat) (ha:a≤L) (x:Option Addr) (c:Nat) (hx:BI lo hi w (.slice x (L - a) c) (L - a) (fun j=>B (a+j))):RdC lo hi (w.setCell ⟨g,0,none⟩ (.slice x (L - a) c)) g L B ⟨a,r.e⟩:=by
 obtain ⟨v,rr,hv,-,hg,hh⟩:=h
 refine ⟨_,rr.put 0 (by simp) _,hx.put (rr.range 0 _ rfl) (fun z e => ?_) _,ha,hg,by rw [World.size_setCell];exact hh⟩
 rcases hv with ⟨xo,rfl,_⟩ | ⟨bb,ob,cap,rfl,_⟩
 · cases e
 · cases e
theorem wpList_eqnil0 {ops:Array Oper} {rest:List Oper} {op:Oper} {a:Act} {w:World} {Q:Exit→Act→World→Prop} (hgd:op.guard=none) (x y:Operand) (t2:TypeId) (ho:op.op = .binOp .eql 22 x y t2) (l c:Nat)
 (hx:a.eval x = .slice none l c) (hy:a.eval y = .slice none 0 0) (h:wpList Try.prog ops Q rest (a.put op.dst (.bool true)) w):wpList Try.prog ops Q (op :: rest) a w :=
 wpList_plain hgd fun K hK=>by
  unfold Oper.wp execOp
  simp only [ho,hx,hy]
  have e:(eqGuard .eql 22 x y (.slice none l c) (.slice none 0 0)).run Try.prog w = .ok () w:=by
   simp [eqGuard]
  rw [Sem.run_bind,Sem.run_bind,e]
  simp only [Result.andThen_ok]
  rw [run_eql_slice_nil w 22 5 none l c Try.underlying22]
  exact hK _ _ h
set_option maxRecDepth 20000 in
set_option maxHeartbeats 2000000 in
theorem cClone_any (v:Value) (n:Nat) (b:Nat→Nat) (hn:n<140737488355000) (w:World) (hv:BytesIn w v n b):Calls Try.prog 95 #[v] w fun e w'=>∃ u,e = .returned u∧Own w.heap.size w' u n b∧Below w.heap.size w w':=by
 obtain ⟨x1,c1,rfl,hxn,-,hsrc⟩:=hv.src
 have hsu:=hsrc _ ((Below.refl w.heap.size w).alloc (Nat.le_refl _) (.cells #[] 5))
 rcases x1 with _ | ad
 · obtain rfl:=hxn rfl
   obtain rfl:n=0:=by
    rcases hv with ⟨xo,_,h⟩ | ⟨bb,ob,cap,e,_⟩
    · exact h
    · cases e
   clear hv hsrc hsu
   go_enter Try.func95,Try.ntmps95
   go_wp2_with (refine wpList_eqnil0 rfl _ _ _ rfl _ _ rfl rfl ?_)
   go_ret
   exact ⟨_,rfl,Own.nil _ _ _,Below.refl _ _⟩
 · clear hv hsrc
   go_enter Try.func95,Try.ntmps95
   go_wp2_with (first
    | (refine wpList_eqnil rfl _ _ _ rfl _ _ _ rfl rfl ?_)
    | (at_builtin;refine wpList_append_empty rfl (.tmp 5) (.tmp 6) rfl w.heap.size b w.heap.size rfl rfl (some ad) n c1 rfl hsu hxn (by omega) (Nat.le_refl _) ?_;intro v3 w3 own3 hb3;(obtain ⟨y3,d3,e3⟩:=own3.slice);subst e3))
   go_ret
   exact ⟨_,rfl,own3,hb3⟩
set_option maxRecDepth 20000 in
set_option maxHeartbeats 2000000 in
theorem cNew_any (v:Value) (n:Nat) (b:Nat→Nat) (hn:n<140737488355000) (w:World) (hv:BytesIn w v n b):Calls Try.prog 68 #[v] w fun e w'=>∃ g,e = .returned (.pointer (some ⟨g,0,none⟩))∧RdC w.heap.size w'.heap.size w' g n b ⟨0,0⟩∧Below w.heap.size w w':=by
 have cc:=cClone_any v n b hn w hv
 obtain ⟨x1,c1,rfl,-,-,-⟩:=hv.src
 clear hv
 go_enter Try.func68,Try.ntmps68
 go_wp2_with (go_at_call 95;refine cc.mono ?_;clear cc;rintro e w1 ⟨u,rfl,own,b1⟩;(obtain ⟨x2,c2,e2⟩:=own.slice);subst e2)
 go_ret
 have hb:=(Below.refl w1.heap.size w1).alloc (Nat.le_refl _) (.cells #[.slice x2 n c2,.int .i64 0,.bool true] 130)
 refine ⟨w1.heap.size,rfl,⟨_,RW.fresh w1 [_,_,_] _,?_,Nat.zero_le _,⟨b1.size,by simp⟩,Nat.le_refl _⟩,below_next b1 hb⟩
 refine BI.cong ((BI.own own).below hb (Nat.le_refl _) |>.wide (Nat.le_refl _) hb.size) fun j _ => ?_
 show b j=b (0+j)
 rw [Nat.zero_add]
set_option maxRecDepth 20000 in
theorem cErr_any (lo hi g L:Nat) (B:Nat→Nat) (r:Rd) (w:World) (h:RdC lo hi w g L B r):Calls Try.prog 96 #[.pointer (some ⟨g,0,none⟩)] w fun e w'=>e = .returned (.int .i64 r.e)∧w'=w:=by
 obtain ⟨v,-,⟨c1,-⟩,c2,-⟩:=h.cells
 generalize r.e=er at *
 clear h
 go_enter Try.func96,Try.ntmps96
 go_wp2
 go_ret
 exact ⟨rfl,rfl⟩
set_option maxRecDepth 20000 in
theorem cReads_any (lo hi g L:Nat) (B:Nat→Nat) (r:Rd) (w:World) (h:RdC lo hi w g L B r):Calls Try.prog 106 #[.pointer (some ⟨g,0,none⟩)] w fun e w'=>e = .returned (.bool (decide (r.e=0)))∧w'=w:=by
 have c:=cErr_any lo hi g L B r w h
 clear h
 by_cases he:r.e=0
 · rw [he] at c ⊢
   go_enter Try.func106,Try.ntmps106
   go_wp2_with (go_at_call 96;refine c.mono ?_;clear c;rintro e w1 ⟨rfl,hw⟩;obtain rfl:=hw.symm)
   go_ret
   exact ⟨rfl,rfl⟩
 · rw [decide_eq_false he]
   generalize r.e=er at *
   go_enter Try.func106,Try.ntmps106
   go_wp2_with (go_at_call 96;refine c.mono ?_;clear c;rintro e w1 ⟨rfl,hw⟩;obtain rfl:=hw.symm)
   go_ret
   exact ⟨by simp [he],rfl⟩
set_option maxRecDepth 20000 in
theorem cLeft_any (lo hi g L:Nat) (B:Nat→Nat) (r:Rd) (w:World) (h:RdC lo hi w g L B r):Calls Try.prog 97 #[.pointer (some ⟨g,0,none⟩)] w fun e w'=>e = .returned (.int .i64 ((L:Int) - (r.at_:Int)))∧w'=w:=by
 have ha:=h.le
 obtain ⟨v,⟨c0,-⟩,-,-,hv⟩:=h.cells
 obtain ⟨xo,cx,-,-,-,-,rfl,-,-,-,-,-⟩:=hv.cut 0 (Nat.zero_le _)
 have e0:(L:Int) - (r.at_:Int)=((L - r.at_:Nat):Int):=by omega
 rw [e0]
 generalize L - r.at_=m at *
 clear h hv e0
 go_enter Try.func97,Try.ntmps97
 go_wp2
 go_ret
 exact ⟨rfl,rfl⟩
set_option maxRecDepth 20000 in
theorem cEnd_any (lo hi g L:Nat) (B:Nat→Nat) (r:Rd) (w:World) (h:RdC lo hi w g L B r):Calls Try.prog 69 #[.pointer (some ⟨g,0,none⟩)] w fun e w'=>e = .returned (.int .i64 (endD L r))∧w'=w:=by
 have ha:=h.le
 have c:=cErr_any lo hi g L B r w h
 have cl:=cLeft_any lo hi g L B r w h
 obtain ⟨x,hx⟩:∃ x:Int,x=(L:Int) - (r.at_:Int):=⟨_,rfl⟩
 rw [←hx] at cl
 clear h
 unfold endD
 by_cases he:r.e=0
 · rw [he] at c
   by_cases hl:r.at_<L
   · rw [if_pos ⟨he,hl⟩]
     have t1:¬x=0:=by omega
     clear hx
     go_enter Try.func69,Try.ntmps69
     go_wp2_with (first
      | (go_at_call 96;refine c.mono ?_;clear c;rintro e w1 ⟨rfl,hw⟩;obtain rfl:=hw.symm)
      | (go_at_call 97;refine cl.mono ?_;clear cl;rintro e w1 ⟨rfl,hw⟩;obtain rfl:=hw.symm))
     go_ret
     exact ⟨rfl,rfl⟩
   · rw [if_neg (fun e=>hl e.2),he]
     have t1:x=0:=by omega
     clear hx
     go_enter Try.func69,Try.ntmps69
     go_wp2_with (first
      | (go_at_call 96;refine c.mono ?_;clear c;rintro e w1 ⟨rfl,hw⟩;obtain rfl:=hw.symm)
      | (go_at_call 97;refine cl.mono ?_;clear cl;rintro e w1 ⟨rfl,hw⟩;obtain rfl:=hw.symm))
     go_ret
     exact ⟨rfl,rfl⟩
 · rw [if_neg (fun e=>he e.1)]
   clear hx cl
   generalize r.e=er at *
   go_enter Try.func69,Try.ntmps69
   go_wp2_with (go_at_call 96;refine c.mono ?_;clear c;rintro e w1 ⟨rfl,hw⟩;obtain rfl:=hw.symm)
   go_ret
   exact ⟨rfl,rfl⟩
end Go.Proofs.Ytgdcmibdjiaofaa
namespace Go.Proofs.Ytgdcmibdjiaofaa
open Go.RowKit
def knI (n:Int):Nat:=if n / 2 ^ 6=0 then 0 else if n / 2 ^ 14=0 then 1 else if n / 2 ^ 30=0 then 2 else 3
theorem knI_at (n:Int) (k:Nat) (hk:k<3) (h:n / 2 ^ lbN k=0) (hl:∀ q,q<k→¬n / 2 ^ lbN q=0):knI n=k:=by
 unfold knI
 rcases (show k=0∨k=1∨k=2 by omega) with rfl | rfl | rfl
 · exact if_pos h
 · exact (if_neg (hl 0 (by decide))).trans (if_pos h)
 · exact (if_neg (hl 0 (by decide))).trans ((if_neg (hl 1 (by decide))).trans (if_pos h))
theorem knI_none (n:Int) (hl:∀ q,q<3→¬n / 2 ^ lbN q=0):knI n=3:=by
 unfold knI
 exact (if_neg (hl 0 (by decide))).trans ((if_neg (hl 1 (by decide))).trans (if_neg (hl 2 (by decide))))
set_option maxRecDepth 20000 in
set_option maxHeartbeats 4000000 in
theorem cKind_any (n:Int) (w:World):Calls Try.prog 118 #[.int .i64 n] w fun e w'=>e = .returned (.int .i64 ((knI n:Nat):Int))∧w'=w:=by
 go_enter Try.func118,Try.ntmps118
 go_wp2
 go_loopw [4] (fun i wr=>∃ k:Nat,k≤3∧i = .int .i64 k∧w=wr∧∀ q,q<k→¬n / 2 ^ lbN q=0) (fun i _=>3 - (intOf i).toNat)
 case atStart=>exact ⟨0,Nat.zero_le _,rfl,rfl,fun q hq=>absurd hq (Nat.not_lt_zero _)⟩
 case round =>
  obtain ⟨k,hk,rfl,rfl,hl⟩:=hrel
  by_cases hlt:k<3
  · have cb:=cBits_any k hlt w
    have t1:(k:Int)<3:=by omega
    obtain ⟨b,hb⟩:∃ b,b=lbN k:=⟨_,rfl⟩
    have hb64:b<64:=by rw [hb];rcases (show k=0∨k=1∨k=2 by omega) with rfl | rfl | rfl <;> decide
    have t2:(0:Int)≤(b:Int)∧(b:Int)<64:=by omega
    rw [←hb] at cb
    have e4:IntKind.u64.wrap (b:Int)=(b:Int):=by show (b:Int)%18446744073709551616=_;omega
    by_cases hn:n / 2 ^ b=0
    · have hkn:knI n=k:=knI_at n k hlt (by rw [←hb];exact hn) hl
      clear hl hb
      go_wp2_with (go_at_call 119;refine cb.mono ?_;clear cb;rintro e w1 ⟨rfl,hw⟩;obtain rfl:=hw.symm)
      go_ret
      exact ⟨by rw [hkn];rfl,rfl⟩
    · have Hb:=Hid.mk' hb
      have Hl:=Hid.mk' hl
      clear hl hb
      go_wp2_with (go_at_call 119;refine cb.mono ?_;clear cb;rintro e w1 ⟨rfl,hw⟩;obtain rfl:=hw.symm)
      go_roundw
      case rel=>exact ⟨k+1,hlt,by go_num,trivial,fun q hq=>by
       by_cases e:q=k
       · subst e;rw [←Hb.out];exact hn
       · exact Hl.out q (by omega)⟩
      case measure=>simp [intOf];omega
  · obtain rfl:k=3:=by omega
    have hkn:=knI_none n hl
    clear hl
    go_wp2
    go_ret
    exact ⟨by rw [hkn];rfl,rfl⟩
theorem cNum11_good (n s:Nat) (h:szB s=true) (hn:n<mstN s) (w:World):Calls Try.prog 88 #[.int .i64 n,.int .i64 s] w fun e w'=>∃ v,e = .returned (.tuple #[v,.int .i64 0])∧BytesIn w' v s (beN n s)∧Below w.heap.size w w':=by
 have c:=cSize_any s w
 rw [h] at c
 have hs:=szB_cases h
 have cm:=cMost_any s (by omega) w
 have cs:=cSplit_any n s (by omega) w
 obtain ⟨y,hy⟩:∃ y:Int,y=((mstN s - 1:Nat):Int):=⟨_,rfl⟩
 rw [←hy] at cm
 have t1:¬y<(n:Int):=by omega
 have t2:¬(n:Int)<0:=by omega
 clear hy hn hs
 go_enter Try.func88,Try.ntmps88
 go_wp2_with (first
  | (go_at_call 109;refine c.mono ?_;clear c;rintro e w1 ⟨rfl,hw⟩;obtain rfl:=hw.symm)
  | (go_at_call 110;refine cm.mono ?_;clear cm;rintro e w1 ⟨rfl,hw⟩;obtain rfl:=hw.symm)
  | (go_at_call 111;refine cs.mono ?_;clear cs;rintro e w1 ⟨v1,rfl,hv1,b1⟩))
 go_ret2
 exact ⟨v1,rfl,hv1,b1⟩
theorem cLen11_kind (n k q:Nat) (hk:k<3) (hkn:knI n=k) (hq:bits .or .i64 ((k*2 ^ lbN k:Nat):Int) (n:Int)=(q:Int)) (w:World):Calls Try.prog 104 #[.int .i64 n] w fun e w'=>∃ v,e = .returned (.tuple #[v,.int .i64 0])∧BytesIn w' v (2 ^ k) (beN q (2 ^ k))∧Below w.heap.size w w':=by
 have c:=cKind_any n w
 rw [hkn] at c
 clear hkn
 have cb:=cBits_any k hk w.drew
 have bd:Below w.heap.size w w.drew:=(Below.refl _ _).drew
 rcases (show k=0∨k=1∨k=2 by omega) with rfl | rfl | rfl
 · have cs:=cSplit_any q 1 (by decide) w.drew
   replace hq:bits .or .i64 (0:Int) (n:Int)=(q:Int):=hq
   clear hk
   go_enter Try.func104,Try.ntmps104
   go_wp2_with (go_at_call 118;refine c.mono ?_;clear c;rintro e w1 ⟨rfl,hw⟩;obtain rfl:=hw.symm)
   go_upto_region 4 with (fail)
   refine wp_region_held_drew (S:=fun u=>Below w.drew.heap.size w.drew u) (by kernel_rfl) (Below.refl _ _) (fun hS => ?_)
   refine tg 0 hS ?_
   (try simp only [pS])
   refine tg 1 hS ?_
   (try simp only [pS])
   refine tg 4 hS ?_
   (try simp only [pS])
   refine tg 6 hS ?_
   (try simp only [pS])
   refine tg 7 hS (v := .int .i64 1) ?_ (hy:=fun u _=>by kernel_rfl)
   (try simp only [pS])
   refine cl 2 cb ?_
   rintro e w2 ⟨rfl,hw⟩
   obtain rfl:=hw.symm
   refine ⟨_,rfl,hS,?_⟩
   (try simp only [pS])
   refine tg 3 hS (v := .int .i64 0) ?_ (hy:=fun u _=>by kernel_rfl)
   (try simp only [pS])
   refine tg 5 hS (v := .int .i64 (q:Int)) ?_ (hy := ?_)
   rotate_left
   · exact fun u _=>Eq.trans (b := .ok (.value (.int .i64 (bits .or .i64 (0:Int) (n:Int)))) u) (by kernel_rfl) (by rw [hq])
   (try simp only [pS])
   refine cn 8 cs ?_
   rintro e w3 ⟨v3,rfl,hv3,b3⟩
   refine ⟨_,rfl,b3,?_⟩
   (try simp only [pS])
   refine tg 9 (Below.refl _ _) ?_
   (try simp only [pS])
   refine tg 10 (Below.refl _ _) ?_
   (try simp only [pS])
   refine wpAnyH_done (by kernel_rfl) ?_ _
   go_wp2
   go_ret2
   exact ⟨_,rfl,hv3,below_next bd b3⟩
 · have cs:=cSplit_any q 2 (by decide) w.drew
   replace hq:bits .or .i64 (16384:Int) (n:Int)=(q:Int):=hq
   clear hk
   go_enter Try.func104,Try.ntmps104
   go_wp2_with (go_at_call 118;refine c.mono ?_;clear c;rintro e w1 ⟨rfl,hw⟩;obtain rfl:=hw.symm)
   go_upto_region 4 with (fail)
   refine wp_region_held_drew (S:=fun u=>Below w.drew.heap.size w.drew u) (by kernel_rfl) (Below.refl _ _) (fun hS => ?_)
   refine tg 0 hS ?_
   (try simp only [pS])
   refine tg 1 hS ?_
   (try simp only [pS])
   refine tg 4 hS ?_
   (try simp only [pS])
   refine tg 6 hS ?_
   (try simp only [pS])
   refine tg 7 hS (v := .int .i64 2) ?_ (hy:=fun u _=>by kernel_rfl)
   (try simp only [pS])
   refine cl 2 cb ?_
   rintro e w2 ⟨rfl,hw⟩
   obtain rfl:=hw.symm
   refine ⟨_,rfl,hS,?_⟩
   (try simp only [pS])
   refine tg 3 hS (v := .int .i64 16384) ?_ (hy:=fun u _=>by kernel_rfl)
   (try simp only [pS])
   refine tg 5 hS (v := .int .i64 (q:Int)) ?_ (hy := ?_)
   rotate_left
   · exact fun u _=>Eq.trans (b := .ok (.value (.int .i64 (bits .or .i64 (16384:Int) (n:Int)))) u) (by kernel_rfl) (by rw [hq])
   (try simp only [pS])
   refine cn 8 cs ?_
   rintro e w3 ⟨v3,rfl,hv3,b3⟩
   refine ⟨_,rfl,b3,?_⟩
   (try simp only [pS])
   refine tg 9 (Below.refl _ _) ?_
   (try simp only [pS])
   refine tg 10 (Below.refl _ _) ?_
   (try simp only [pS])
   refine wpAnyH_done (by kernel_rfl) ?_ _
   go_wp2
   go_ret2
   exact ⟨_,rfl,hv3,below_next bd b3⟩
 · have cs:=cSplit_any q 4 (by decide) w.drew
   replace hq:bits .or .i64 (2147483648:Int) (n:Int)=(q:Int):=hq
   clear hk
   go_enter Try.func104,Try.ntmps104
   go_wp2_with (go_at_call 118;refine c.mono ?_;clear c;rintro e w1 ⟨rfl,hw⟩;obtain rfl:=hw.symm)
   go_upto_region 4 with (fail)
   refine wp_region_held_drew (S:=fun u=>Below w.drew.heap.size w.drew u) (by kernel_rfl) (Below.refl _ _) (fun hS => ?_)
   refine tg 0 hS ?_
   (try simp only [pS])
   refine tg 1 hS ?_
   (try simp only [pS])
   refine tg 4 hS ?_
   (try simp only [pS])
   refine tg 6 hS ?_
   (try simp only [pS])
   refine tg 7 hS (v := .int .i64 4) ?_ (hy:=fun u _=>by kernel_rfl)
   (try simp only [pS])
   refine cl 2 cb ?_
   rintro e w2 ⟨rfl,hw⟩
   obtain rfl:=hw.symm
   refine ⟨_,rfl,hS,?_⟩
   (try simp only [pS])
   refine tg 3 hS (v := .int .i64 2147483648) ?_ (hy:=fun u _=>by kernel_rfl)
   (try simp only [pS])
   refine tg 5 hS (v := .int .i64 (q:Int)) ?_ (hy := ?_)
   rotate_left
   · exact fun u _=>Eq.trans (b := .ok (.value (.int .i64 (bits .or .i64 (2147483648:Int) (n:Int)))) u) (by kernel_rfl) (by rw [hq])
   (try simp only [pS])
   refine cn 8 cs ?_
   rintro e w3 ⟨v3,rfl,hv3,b3⟩
   refine ⟨_,rfl,b3,?_⟩
   (try simp only [pS])
   refine tg 9 (Below.refl _ _) ?_
   (try simp only [pS])
   refine tg 10 (Below.refl _ _) ?_
   (try simp only [pS])
   refine wpAnyH_done (by kernel_rfl) ?_ _
   go_wp2
   go_ret2
   exact ⟨_,rfl,hv3,below_next bd b3⟩
theorem cLen11_good (n:Nat) (hn:n<1073741824) (w:World):Calls Try.prog 104 #[.int .i64 n] w fun e w'=>∃ v,e = .returned (.tuple #[v,.int .i64 0])∧BytesIn w' v (lnS n) (lnB n)∧Below w.heap.size w w':=by
 unfold lnB
 by_cases h2:n<64
 · have e1:lnW n=n:=by unfold lnW;rw [if_pos h2]
   have e2:lnS n=2 ^ 0:=by unfold lnS;rw [if_pos h2]
   rw [e1,e2]
   refine cLen11_kind n 0 n (by decide) (knI_at _ 0 (by decide) (show (n:Int) / 64=0 by omega) (fun q hq=>absurd hq (Nat.not_lt_zero _))) ?_ w
   have:=i64_or_nat 0 n (by decide) (by omega)
   rw [Nat.zero_or] at this
   exact this
 · have g0:¬(n:Int) / 64=0:=by omega
   by_cases h3:n<16384
   · have e1:lnW n=n+16384:=by unfold lnW;rw [if_neg h2,if_pos h3]
     have e2:lnS n=2 ^ 1:=by unfold lnS;rw [if_neg h2,if_pos h3]
     rw [e1,e2]
     refine cLen11_kind n 1 (n+16384) (by decide) (knI_at _ 1 (by decide) (show (n:Int) / 16384=0 by omega) (fun q hq=>by
      obtain rfl:q=0:=by omega
      exact g0)) ?_ w
     have h:=Nat.two_pow_add_eq_or_of_lt (i:=14) (b:=n) h3 1
     have:=i64_or_nat 16384 n (by decide) (by omega)
     rw [←(show 16384+n=16384 ||| n from h),Nat.add_comm] at this
     exact this
   · have g1:¬(n:Int) / 16384=0:=by omega
     have e1:lnW n=n+2147483648:=by unfold lnW;rw [if_neg h2,if_neg h3]
     have e2:lnS n=2 ^ 2:=by unfold lnS;rw [if_neg h2,if_neg h3]
     rw [e1,e2]
     refine cLen11_kind n 2 (n+2147483648) (by decide) (knI_at _ 2 (by decide) (show (n:Int) / 1073741824=0 by omega) (fun q hq=>by
      rcases (show q=0∨q=1 by omega) with rfl | rfl
      · exact g0
      · exact g1)) ?_ w
     have h:=Nat.two_pow_add_eq_or_of_lt (i:=31) (b:=n) (by omega) 1
     have:=i64_or_nat 2147483648 n (by decide) (by omega)
     rw [←(show 2147483648+n=2147483648 ||| n from h),Nat.add_comm] at this
     exact this
end Go.Proofs.Ytgdcmibdjiaofaa
namespace Go.Proofs.Ytgdcmibdjiaofaa
open Go.RowKit
def sumN (pn:Nat→Nat):Nat→Nat
 | 0=>0
 | i+1=>sumN pn i+pn i
def allB (pn:Nat→Nat) (pb:Nat→Nat→Nat):Nat→Nat→Nat
 | 0=>fun _=>0
 | i+1=>cat (sumN pn i) (allB pn pb i) (pb i)
theorem sumN_le (pn:Nat→Nat) {i j:Nat} (h:i≤j):sumN pn i≤sumN pn j:=by
 induction h with
 | refl=>exact Nat.le_refl _
 | step _ ih=>exact Nat.le_trans ih (Nat.le_add_right _ _)
theorem allB_lt {pn:Nat→Nat} {pb:Nat→Nat→Nat} (h:∀ i j,pb i j<256):∀ i j,allB pn pb i j<256
 | 0,_=>Nat.zero_lt_succ _
 | i+1,j=>cat_lt (allB_lt h i) (h i) j
structure PiecesIn (w:World) (xo:Option Addr) (cnt:Nat) (pv:Nat→Value) (pn:Nat→Nat) (pb:Nat→Nat→Nat):Prop where
 cell:∀ q,q<cnt→∃ lb lo,xo=some ⟨lb,lo,none⟩∧∀ i,i<cnt→w.cell? ⟨lb,lo+i,none⟩=some (pv i)
 each:∀ i,i<cnt→BytesIn w (pv i) (pn i) (pb i)
 byte:∀ i j,pb i j<256
theorem PiecesIn.keep {w w':World} {xo:Option Addr} {cnt:Nat} {pv:Nat→Value} {pn:Nat→Nat} {pb:Nat→Nat→Nat} (h:PiecesIn w xo cnt pv pn pb) (hb:Below w.heap.size w w'):PiecesIn w' xo cnt pv pn pb:=by
 refine ⟨fun q hq => ?_,fun i hi=>(h.each i hi).keep hb,h.byte⟩
 obtain ⟨lb,lo,rfl,hc⟩:=h.cell q hq
 exact ⟨lb,lo,rfl,fun i hi=>(hb.cell (p:=⟨lb,lo+i,none⟩) (block_lt_of_cell (hc i hi))).trans (hc i hi)⟩
def vsL (pn:Nat→Nat):Nat→Nat:=sumN (fun i=>vcL (pn i))
def vsB (pn:Nat→Nat) (pb:Nat→Nat→Nat):Nat→Nat→Nat:=allB (fun i=>vcL (pn i)) (fun i=>vcB (pn i) (pb i))
theorem vsL_le (pn:Nat→Nat):∀ n,vsL pn n≤sumN pn n+4*n
 | 0=>Nat.le_refl _
 | n+1=>by
  have h1:=vsL_le pn n
  have h2:=lnS_pos (pn n)
  show vsL pn n+(lnS (pn n)+pn n)≤sumN pn n+pn n+4*(n+1)
  omega
end Go.Proofs.Ytgdcmibdjiaofaa
namespace Go.Proofs.Ytgdcmibdjiaofaa
open Go.RowKit
theorem nbN_one (B:Nat→Nat) (a:Nat):nbN B a 1=B a:=by show 0*256+B (a+0)=_;rw [Nat.add_zero];omega
theorem nbN_two (B:Nat→Nat) (a:Nat):nbN B a 2=B a*256+B (a+1):=by show nbN B a 1*256+_=_;rw [nbN_one]
theorem nbN_four (B:Nat→Nat) (a:Nat):nbN B a 4=((B a*256+B (a+1))*256+B (a+2))*256+B (a+3):=by show (nbN B a 2*256+_)*256+_=_;rw [nbN_two]
end Go.Proofs.Ytgdcmibdjiaofaa
namespace Go.Proofs.Ytgdcmibdjiaofaa
open Go.RowKit
theorem lenD_shift (L:Nat) (B:Nat→Nat) (a:Nat) (ha:a≤L):lenD L B ⟨a,0⟩=((lenD (L - a) (fun j=>B (a+j)) ⟨0,0⟩).1,⟨a+(lenD (L - a) (fun j=>B (a+j)) ⟨0,0⟩).2.at_,(lenD (L - a) (fun j=>B (a+j)) ⟨0,0⟩).2.e⟩):=by
 unfold lenD
 simp only [nbN_shift,Nat.add_zero,ne_eq,not_true_eq_false,if_false]
 by_cases h0:L=a
 · rw [if_pos h0,if_pos (by omega)];rfl
 rw [if_neg h0,if_neg (show ¬L - a=0 by omega)]
 by_cases h1:B a / 64=3
 · rw [if_pos h1,if_pos h1];rfl
 rw [if_neg h1,if_neg h1,Nat.sub_zero]
 by_cases h2:L - a<2 ^ (B a / 64)
 · rw [if_pos h2,if_pos h2];rfl
 rw [if_neg h2,if_neg h2]
 split
 · rfl
 · simp
theorem wp_scope_fwd {P:Program} {a:Act} {w:World} {Q:Exit→Act→World→Prop} {c rest:Code} (l:Nat) (hf:findLabel c l=some rest) (first:c.wp P (Exit.jump l (fun a w=>rest.wp P (Exit.noGoto Q) a w) Q) a w):(Code.scope c).wp P Q a w :=
 wp_scope_jumps l (fun a w=>rest.wp P (Exit.noGoto Q) a w) (fun _ _=>0) hf first fun a w h=>Code.wp_mono (fun e a w hq=>by
  cases e with
  | goto l=>exact absurd hq (fun h=>h)
  | _=>exact hq) h
theorem jump_ret {l:Nat} {J:Act→World→Prop} {Q:Exit→Act→World→Prop} {a:Act} {w:World}:Exit.jump l J Q .ret a w=Q .ret a w:=rfl
def ansL (p:Nat × Rd):Ending := .returned (.tuple #[.int .i64 ((p.1:Nat):Int),.int .i64 ((p.2.at_:Nat):Int),.int .i64 p.2.e])
set_option maxRecDepth 20000 in
set_option maxHeartbeats 4000000 in
theorem cLenAt_empty (v:Value) (B:Nat→Nat) (w:World) (hv:BytesIn w v 0 B):Calls Try.prog 107 #[v] w fun e w'=>e = .returned (.tuple #[.int .i64 0,.int .i64 0,.int .i64 20])∧w'=w:=by
 obtain ⟨xo,cx,rfl,-,-,-⟩:=hv.src
 clear hv
 go_enter Try.func107,Try.ntmps107
 go_wp2
 refine wp_scope_fwd 0 rfl ?_
 go_wp2
 go_step3
 refine ⟨rfl,?_⟩
 go_wp2
 rw [Exit.noGoto_ret]
 go_ret3
 exact ⟨rfl,rfl⟩
theorem at_first {w:World} {v:Value} {L:Nat} {B:Nat→Nat} (hv:BytesIn w v L B) (h0:0<L):∃ bb ob cap,v = .slice (some ⟨bb,ob,none⟩) L cap∧w.cell? ⟨bb,ob,none⟩=some (.int .u8 ((B 0:Nat):Int)):=by
 rcases hv with ⟨xo,-,h⟩ | ⟨bb,ob,cap,rfl,hbb,hc,hcell⟩
 · omega
 · exact ⟨bb,ob,cap,rfl,hcell 0 h0⟩
set_option maxRecDepth 20000 in
set_option maxHeartbeats 4000000 in
theorem cLenAt_three (v:Value) (L:Nat) (B:Nat→Nat) (w:World) (hv:BytesIn w v L B) (h0:0<L) (ht:B 0 / 64=3):Calls Try.prog 107 #[v] w fun e w'=>e = .returned (.tuple #[.int .i64 0,.int .i64 0,.int .i64 21])∧w'=w:=by
 obtain ⟨bb,ob,cap,rfl,f0⟩:=at_first hv h0
 obtain ⟨y,hy⟩:∃ y,y=B 0:=⟨_,rfl⟩
 rw [←hy] at ht f0
 have e1:(y:Int) / 64=3:=by omega
 have t0:¬(L:Int)=0:=by omega
 have t1:(0:Int)<(L:Int):=by omega
 clear hv ht hy
 go_enter Try.func107,Try.ntmps107
 go_wp2
 refine wp_scope_fwd 0 rfl ?_
 go_wp2
 go_step3
 refine ⟨rfl,?_⟩
 go_wp2
 rw [Exit.noGoto_ret]
 go_ret3
 exact ⟨rfl,rfl⟩
set_option maxRecDepth 20000 in
set_option maxHeartbeats 4000000 in
theorem cLenAt_end2 (v:Value) (L:Nat) (B:Nat→Nat) (w:World) (hv:BytesIn w v L B) (h0:0<L) (ht:B 0 / 64=1) (h2:L<2):Calls Try.prog 107 #[v] w fun e w'=>e = .returned (.tuple #[.int .i64 0,.int .i64 0,.int .i64 20])∧w'=w:=by
 obtain ⟨bb,ob,cap,rfl,f0⟩:=at_first hv h0
 obtain ⟨y,hy⟩:∃ y,y=B 0:=⟨_,rfl⟩
 rw [←hy] at ht f0
 have e1:(y:Int) / 64=1:=by omega
 have t0:¬(L:Int)=0:=by omega
 have t1:(0:Int)<(L:Int):=by omega
 have t3:(L:Int)<2:=by omega
 clear h2
 clear hv ht hy
 go_enter Try.func107,Try.ntmps107
 go_wp2
 refine wp_scope_fwd 0 rfl ?_
 go_wp2
 go_step3
 refine ⟨rfl,?_⟩
 go_wp2
 rw [Exit.noGoto_ret]
 go_ret3
 exact ⟨rfl,rfl⟩
set_option maxRecDepth 20000 in
set_option maxHeartbeats 4000000 in
theorem cLenAt_end4 (v:Value) (L:Nat) (B:Nat→Nat) (w:World) (hv:BytesIn w v L B) (h0:0<L) (ht:B 0 / 64=2) (h2:L<4):Calls Try.prog 107 #[v] w fun e w'=>e = .returned (.tuple #[.int .i64 0,.int .i64 0,.int .i64 20])∧w'=w:=by
 obtain ⟨bb,ob,cap,rfl,f0⟩:=at_first hv h0
 obtain ⟨y,hy⟩:∃ y,y=B 0:=⟨_,rfl⟩
 rw [←hy] at ht f0
 have e1:(y:Int) / 64=2:=by omega
 have t0:¬(L:Int)=0:=by omega
 have t1:(0:Int)<(L:Int):=by omega
 have t3:(L:Int)<4:=by omega
 clear h2
 clear hv ht hy
 go_enter Try.func107,Try.ntmps107
 go_wp2
 refine wp_scope_fwd 0 rfl ?_
 go_wp2
 go_step3
 refine ⟨rfl,?_⟩
 go_wp2
 rw [Exit.noGoto_ret]
 go_ret3
 exact ⟨rfl,rfl⟩
set_option maxRecDepth 20000 in
set_option maxHeartbeats 4000000 in
theorem cLenAt_good1 (v:Value) (L:Nat) (B:Nat→Nat) (lB:∀ j,B j<256) (w:World) (hv:BytesIn w v L B) (h0:0<L) (ht:B 0 / 64=0) (h2:1≤L) (h3:knI ((nbN B 0 1%64:Nat):Int)=0):Calls Try.prog 107 #[v] w fun e w'=>e = .returned (.tuple #[.int .i64 ((nbN B 0 1%64:Nat):Int),.int .i64 1,.int .i64 0])∧w'=w:=by
 obtain ⟨bb,ob,cap,rfl,f0⟩:=at_first hv h0
 obtain ⟨xo,cx,x1,c1,-,-,e0,-,hsl,hv1,-,-⟩:=(BI.all hv).cut 1 (by omega)
 cases e0
 replace hsl:∀ W:World,(Instr.sliceAt 22 (.slice (some ⟨bb,ob,none⟩) L cap) none (some (.int .i64 1)) none).run Try.prog W = .ok (.slice x1 1 c1) W:=hsl
 have cj:=cJoin_any _ 1 B lB (by decide) w (hv1.of (Nat.le_refl _))
 have cb:Calls Try.prog 119 #[.int .i64 0] w fun e w'=>e = .returned (.int .i64 6)∧w'=w:=cBits_any 0 (by decide) w
 have hN:nbN B 0 1 / 64=0:=by
  rw [nbN_one]
  try simp only [Nat.zero_add]
  have:=lB 0
  have:=lB 1
  have:=lB 2
  have:=lB 3
  omega
 obtain ⟨m,hm⟩:∃ m:Int,m=((nbN B 0 1%64:Nat):Int):=⟨_,rfl⟩
 have ck:=cKind_any m w
 rw [←hm] at h3 ⊢
 obtain ⟨z,hz⟩:∃ z:Int,z=((nbN B 0 1:Nat):Int):=⟨_,rfl⟩
 rw [←hz] at cj
 have e8:wrap64 (wrap64 z)=m:=by unfold wrap64;omega
 replace ck:Calls Try.prog 118 #[.int .i64 m] w fun e w'=>e = .returned (.int .i64 0)∧w'=w:=by rw [h3] at ck;exact ck
 obtain ⟨y,hy⟩:∃ y,y=B 0:=⟨_,rfl⟩
 rw [←hy] at ht f0
 have e1:(y:Int) / 64=0:=by omega
 have t0:¬(L:Int)=0:=by omega
 have t1:(0:Int)<(L:Int):=by omega
 have t3:¬(L:Int)<1:=by omega
 clear hv ht hy h2 hN hm hz hv1 h3
 go_enter Try.func107,Try.ntmps107
 go_wp2
 refine wp_scope_fwd 0 rfl ?_
 go_wp2_with (first
  | (go_at_call 112;refine cj.mono ?_;clear cj;rintro e w1 ⟨rfl,hw⟩;obtain rfl:=hw.symm)
  | (go_at_call 119;refine cb.mono ?_;clear cb;rintro e w1 ⟨rfl,hw⟩;obtain rfl:=hw.symm)
  | (go_at_call 118;(try rw [e8]);with_reducible refine ck.mono ?_;clear ck;rintro e w1 ⟨rfl,hw⟩;obtain rfl:=hw.symm))
 rw [jump_ret]
 go_ret3
 exact ⟨rfl,rfl⟩
set_option maxRecDepth 20000 in
set_option maxHeartbeats 4000000 in
theorem cLenAt_good2 (v:Value) (L:Nat) (B:Nat→Nat) (lB:∀ j,B j<256) (w:World) (hv:BytesIn w v L B) (h0:0<L) (ht:B 0 / 64=1) (h2:2≤L) (h3:knI ((nbN B 0 2%16384:Nat):Int)=1):Calls Try.prog 107 #[v] w fun e w'=>e = .returned (.tuple #[.int .i64 ((nbN B 0 2%16384:Nat):Int),.int .i64 2,.int .i64 0])∧w'=w:=by
 obtain ⟨bb,ob,cap,rfl,f0⟩:=at_first hv h0
 obtain ⟨xo,cx,x1,c1,-,-,e0,-,hsl,hv1,-,-⟩:=(BI.all hv).cut 2 (by omega)
 cases e0
 replace hsl:∀ W:World,(Instr.sliceAt 22 (.slice (some ⟨bb,ob,none⟩) L cap) none (some (.int .i64 2)) none).run Try.prog W = .ok (.slice x1 2 c1) W:=hsl
 have cj:=cJoin_any _ 2 B lB (by decide) w (hv1.of (Nat.le_refl _))
 have cb:Calls Try.prog 119 #[.int .i64 1] w fun e w'=>e = .returned (.int .i64 14)∧w'=w:=cBits_any 1 (by decide) w
 have hN:nbN B 0 2 / 16384=1:=by
  rw [nbN_two]
  try simp only [Nat.zero_add]
  have:=lB 0
  have:=lB 1
  have:=lB 2
  have:=lB 3
  omega
 obtain ⟨m,hm⟩:∃ m:Int,m=((nbN B 0 2%16384:Nat):Int):=⟨_,rfl⟩
 have ck:=cKind_any m w
 rw [←hm] at h3 ⊢
 obtain ⟨z,hz⟩:∃ z:Int,z=((nbN B 0 2:Nat):Int):=⟨_,rfl⟩
 rw [←hz] at cj
 have e8:wrap64 (wrap64 z - 16384)=m:=by unfold wrap64;omega
 replace ck:Calls Try.prog 118 #[.int .i64 m] w fun e w'=>e = .returned (.int .i64 1)∧w'=w:=by rw [h3] at ck;exact ck
 obtain ⟨y,hy⟩:∃ y,y=B 0:=⟨_,rfl⟩
 rw [←hy] at ht f0
 have e1:(y:Int) / 64=1:=by omega
 have t0:¬(L:Int)=0:=by omega
 have t1:(0:Int)<(L:Int):=by omega
 have t3:¬(L:Int)<2:=by omega
 clear hv ht hy h2 hN hm hz hv1 h3
 go_enter Try.func107,Try.ntmps107
 go_wp2
 refine wp_scope_fwd 0 rfl ?_
 go_wp2_with (first
  | (go_at_call 112;refine cj.mono ?_;clear cj;rintro e w1 ⟨rfl,hw⟩;obtain rfl:=hw.symm)
  | (go_at_call 119;refine cb.mono ?_;clear cb;rintro e w1 ⟨rfl,hw⟩;obtain rfl:=hw.symm)
  | (go_at_call 118;(try rw [e8]);with_reducible refine ck.mono ?_;clear ck;rintro e w1 ⟨rfl,hw⟩;obtain rfl:=hw.symm))
 rw [jump_ret]
 go_ret3
 exact ⟨rfl,rfl⟩
set_option maxRecDepth 20000 in
set_option maxHeartbeats 4000000 in
theorem cLenAt_good4 (v:Value) (L:Nat) (B:Nat→Nat) (lB:∀ j,B j<256) (w:World) (hv:BytesIn w v L B) (h0:0<L) (ht:B 0 / 64=2) (h2:4≤L) (h3:knI ((nbN B 0 4%1073741824:Nat):Int)=2):Calls Try.prog 107 #[v] w fun e w'=>e = .returned (.tuple #[.int .i64 ((nbN B 0 4%1073741824:Nat):Int),.int .i64 4,.int .i64 0])∧w'=w:=by
 obtain ⟨bb,ob,cap,rfl,f0⟩:=at_first hv h0
 obtain ⟨xo,cx,x1,c1,-,-,e0,-,hsl,hv1,-,-⟩:=(BI.all hv).cut 4 (by omega)
 cases e0
 replace hsl:∀ W:World,(Instr.sliceAt 22 (.slice (some ⟨bb,ob,none⟩) L cap) none (some (.int .i64 4)) none).run Try.prog W = .ok (.slice x1 4 c1) W:=hsl
 have cj:=cJoin_any _ 4 B lB (by decide) w (hv1.of (Nat.le_refl _))
 have cb:Calls Try.prog 119 #[.int .i64 2] w fun e w'=>e = .returned (.int .i64 30)∧w'=w:=cBits_any 2 (by decide) w
 have hN:nbN B 0 4 / 1073741824=2:=by
  rw [nbN_four]
  try simp only [Nat.zero_add]
  have:=lB 0
  have:=lB 1
  have:=lB 2
  have:=lB 3
  omega
 obtain ⟨m,hm⟩:∃ m:Int,m=((nbN B 0 4%1073741824:Nat):Int):=⟨_,rfl⟩
 have ck:=cKind_any m w
 rw [←hm] at h3 ⊢
 obtain ⟨z,hz⟩:∃ z:Int,z=((nbN B 0 4:Nat):Int):=⟨_,rfl⟩
 rw [←hz] at cj
 have e8:wrap64 (wrap64 z - 2147483648)=m:=by unfold wrap64;omega
 replace ck:Calls Try.prog 118 #[.int .i64 m] w fun e w'=>e = .returned (.int .i64 2)∧w'=w:=by rw [h3] at ck;exact ck
 obtain ⟨y,hy⟩:∃ y,y=B 0:=⟨_,rfl⟩
 rw [←hy] at ht f0
 have e1:(y:Int) / 64=2:=by omega
 have t0:¬(L:Int)=0:=by omega
 have t1:(0:Int)<(L:Int):=by omega
 have t3:¬(L:Int)<4:=by omega
 clear hv ht hy h2 hN hm hz hv1 h3
 go_enter Try.func107,Try.ntmps107
 go_wp2
 refine wp_scope_fwd 0 rfl ?_
 go_wp2_with (first
  | (go_at_call 112;refine cj.mono ?_;clear cj;rintro e w1 ⟨rfl,hw⟩;obtain rfl:=hw.symm)
  | (go_at_call 119;refine cb.mono ?_;clear cb;rintro e w1 ⟨rfl,hw⟩;obtain rfl:=hw.symm)
  | (go_at_call 118;(try rw [e8]);with_reducible refine ck.mono ?_;clear ck;rintro e w1 ⟨rfl,hw⟩;obtain rfl:=hw.symm))
 rw [jump_ret]
 go_ret3
 exact ⟨rfl,rfl⟩
set_option maxRecDepth 20000 in
set_option maxHeartbeats 4000000 in
theorem cLenAt_form2 (v:Value) (L:Nat) (B:Nat→Nat) (lB:∀ j,B j<256) (w:World) (hv:BytesIn w v L B) (h0:0<L) (ht:B 0 / 64=1) (h2:2≤L) (h3:¬knI ((nbN B 0 2%16384:Nat):Int)=1):Calls Try.prog 107 #[v] w fun e w'=>e = .returned (.tuple #[.int .i64 0,.int .i64 0,.int .i64 21])∧w'=w:=by
 obtain ⟨bb,ob,cap,rfl,f0⟩:=at_first hv h0
 obtain ⟨xo,cx,x1,c1,-,-,e0,-,hsl,hv1,-,-⟩:=(BI.all hv).cut 2 (by omega)
 cases e0
 replace hsl:∀ W:World,(Instr.sliceAt 22 (.slice (some ⟨bb,ob,none⟩) L cap) none (some (.int .i64 2)) none).run Try.prog W = .ok (.slice x1 2 c1) W:=hsl
 have cj:=cJoin_any _ 2 B lB (by decide) w (hv1.of (Nat.le_refl _))
 have cb:Calls Try.prog 119 #[.int .i64 1] w fun e w'=>e = .returned (.int .i64 14)∧w'=w:=cBits_any 1 (by decide) w
 have hN:nbN B 0 2 / 16384=1:=by
  rw [nbN_two]
  try simp only [Nat.zero_add]
  have:=lB 0
  have:=lB 1
  have:=lB 2
  have:=lB 3
  omega
 obtain ⟨m,hm⟩:∃ m:Int,m=((nbN B 0 2%16384:Nat):Int):=⟨_,rfl⟩
 have ck:=cKind_any m w
 rw [←hm] at h3
 obtain ⟨z,hz⟩:∃ z:Int,z=((nbN B 0 2:Nat):Int):=⟨_,rfl⟩
 rw [←hz] at cj
 have e8:wrap64 (wrap64 z - 16384)=m:=by unfold wrap64;omega
 obtain ⟨q,hq⟩:∃ q:Int,q=((knI m:Nat):Int):=⟨_,rfl⟩
 rw [←hq] at ck
 have t7:¬q=1:=by omega
 clear hq
 obtain ⟨y,hy⟩:∃ y,y=B 0:=⟨_,rfl⟩
 rw [←hy] at ht f0
 have e1:(y:Int) / 64=1:=by omega
 have t0:¬(L:Int)=0:=by omega
 have t1:(0:Int)<(L:Int):=by omega
 have t3:¬(L:Int)<2:=by omega
 clear hv ht hy h2 hN hm hz hv1 h3
 go_enter Try.func107,Try.ntmps107
 go_wp2
 refine wp_scope_fwd 0 rfl ?_
 go_wp2_with (first
  | (go_at_call 112;refine cj.mono ?_;clear cj;rintro e w1 ⟨rfl,hw⟩;obtain rfl:=hw.symm)
  | (go_at_call 119;refine cb.mono ?_;clear cb;rintro e w1 ⟨rfl,hw⟩;obtain rfl:=hw.symm)
  | (go_at_call 118;(try rw [e8]);with_reducible refine ck.mono ?_;clear ck;rintro e w1 ⟨rfl,hw⟩;obtain rfl:=hw.symm))
 go_step3
 refine ⟨rfl,?_⟩
 go_wp2
 rw [Exit.noGoto_ret]
 go_ret3
 exact ⟨rfl,rfl⟩
set_option maxRecDepth 20000 in
set_option maxHeartbeats 4000000 in
theorem cLenAt_form4 (v:Value) (L:Nat) (B:Nat→Nat) (lB:∀ j,B j<256) (w:World) (hv:BytesIn w v L B) (h0:0<L) (ht:B 0 / 64=2) (h2:4≤L) (h3:¬knI ((nbN B 0 4%1073741824:Nat):Int)=2):Calls Try.prog 107 #[v] w fun e w'=>e = .returned (.tuple #[.int .i64 0,.int .i64 0,.int .i64 21])∧w'=w:=by
 obtain ⟨bb,ob,cap,rfl,f0⟩:=at_first hv h0
 obtain ⟨xo,cx,x1,c1,-,-,e0,-,hsl,hv1,-,-⟩:=(BI.all hv).cut 4 (by omega)
 cases e0
 replace hsl:∀ W:World,(Instr.sliceAt 22 (.slice (some ⟨bb,ob,none⟩) L cap) none (some (.int .i64 4)) none).run Try.prog W = .ok (.slice x1 4 c1) W:=hsl
 have cj:=cJoin_any _ 4 B lB (by decide) w (hv1.of (Nat.le_refl _))
 have cb:Calls Try.prog 119 #[.int .i64 2] w fun e w'=>e = .returned (.int .i64 30)∧w'=w:=cBits_any 2 (by decide) w
 have hN:nbN B 0 4 / 1073741824=2:=by
  rw [nbN_four]
  try simp only [Nat.zero_add]
  have:=lB 0
  have:=lB 1
  have:=lB 2
  have:=lB 3
  omega
 obtain ⟨m,hm⟩:∃ m:Int,m=((nbN B 0 4%1073741824:Nat):Int):=⟨_,rfl⟩
 have ck:=cKind_any m w
 rw [←hm] at h3
 obtain ⟨z,hz⟩:∃ z:Int,z=((nbN B 0 4:Nat):Int):=⟨_,rfl⟩
 rw [←hz] at cj
 have e8:wrap64 (wrap64 z - 2147483648)=m:=by unfold wrap64;omega
 obtain ⟨q,hq⟩:∃ q:Int,q=((knI m:Nat):Int):=⟨_,rfl⟩
 rw [←hq] at ck
 have t7:¬q=2:=by omega
 clear hq
 obtain ⟨y,hy⟩:∃ y,y=B 0:=⟨_,rfl⟩
 rw [←hy] at ht f0
 have e1:(y:Int) / 64=2:=by omega
 have t0:¬(L:Int)=0:=by omega
 have t1:(0:Int)<(L:Int):=by omega
 have t3:¬(L:Int)<4:=by omega
 clear hv ht hy h2 hN hm hz hv1 h3
 go_enter Try.func107,Try.ntmps107
 go_wp2
 refine wp_scope_fwd 0 rfl ?_
 go_wp2_with (first
  | (go_at_call 112;refine cj.mono ?_;clear cj;rintro e w1 ⟨rfl,hw⟩;obtain rfl:=hw.symm)
  | (go_at_call 119;refine cb.mono ?_;clear cb;rintro e w1 ⟨rfl,hw⟩;obtain rfl:=hw.symm)
  | (go_at_call 118;(try rw [e8]);with_reducible refine ck.mono ?_;clear ck;rintro e w1 ⟨rfl,hw⟩;obtain rfl:=hw.symm))
 go_step3
 refine ⟨rfl,?_⟩
 go_wp2
 rw [Exit.noGoto_ret]
 go_ret3
 exact ⟨rfl,rfl⟩
theorem knI_eq (m k:Nat) (_hk:k<3):knI (m:Int)=k↔(if m<64 then 0 else if m<16384 then 1 else if m<1073741824 then 2 else 3)=k:=by
 unfold knI
 have e0:(m:Int) / 2 ^ 6=0↔m<64:=by show (m:Int) / 64=0↔_;omega
 have e1:(m:Int) / 2 ^ 14=0↔m<16384:=by show (m:Int) / 16384=0↔_;omega
 have e2:(m:Int) / 2 ^ 30=0↔m<1073741824:=by show (m:Int) / 1073741824=0↔_;omega
 simp only [e0,e1,e2]
theorem cLenAt_any (v:Value) (L:Nat) (B:Nat→Nat) (lB:∀ j,B j<256) (w:World) (hv:BytesIn w v L B):Calls Try.prog 107 #[v] w fun e w'=>e=ansL (lenD L B ⟨0,0⟩)∧w'=w:=by
 unfold lenD ansL
 rw [if_neg (fun h=>h rfl)]
 have hy:=lB 0
 by_cases h0:L=0
 · subst h0
   rw [if_pos rfl]
   exact cLenAt_empty v B w hv
 rw [if_neg h0]
 by_cases h3:B 0 / 64=3
 · rw [if_pos h3]
   exact cLenAt_three v L B w hv (by omega) h3
 rw [if_neg h3]
 simp only [Nat.sub_zero,Nat.zero_add]
 rcases (show B 0 / 64=0∨B 0 / 64=1∨B 0 / 64=2 by omega) with ht | ht | ht
 · rw [ht,show (2:Nat) ^ 0=1 from rfl,if_neg (by omega),if_neg (by omega)]
   exact cLenAt_good1 v L B lB w hv (by omega) ht (by omega) ((knI_eq _ 0 (by decide)).2 (if_pos (Nat.mod_lt _ (by decide))))
 · rw [ht,show (2:Nat) ^ 1=2 from rfl,show (2:Nat) ^ (8*2 - 2)=16384 from rfl]
   by_cases h2:L<2
   · rw [if_pos h2]
     exact cLenAt_end2 v L B w hv (by omega) ht h2
   rw [if_neg h2]
   have hm:=Nat.mod_lt (nbN B 0 2) (show 16384 > 0 by decide)
   by_cases h4:nbN B 0 2%16384<64
   · rw [if_pos (.inl ⟨rfl,h4⟩)]
     exact cLenAt_form2 v L B lB w hv (by omega) ht (by omega) (fun e=>by
      rw [knI_eq _ 1 (by decide),if_pos h4] at e
      exact absurd e (by decide))
   rw [if_neg (fun e=>e.elim (fun e=>h4 e.2) (fun e=>absurd e.1 (by decide)))]
   exact cLenAt_good2 v L B lB w hv (by omega) ht (by omega) ((knI_eq _ 1 (by decide)).2 (by rw [if_neg h4,if_pos hm]))
 · rw [ht,show (2:Nat) ^ 2=4 from rfl,show (2:Nat) ^ (8*4 - 2)=1073741824 from rfl]
   by_cases h2:L<4
   · rw [if_pos h2]
     exact cLenAt_end4 v L B w hv (by omega) ht h2
   rw [if_neg h2]
   have hm:=Nat.mod_lt (nbN B 0 4) (show 1073741824 > 0 by decide)
   by_cases h4:nbN B 0 4%1073741824<16384
   · rw [if_pos (.inr ⟨rfl,h4⟩)]
     exact cLenAt_form4 v L B lB w hv (by omega) ht (by omega) (fun e=>by
      rw [knI_eq _ 2 (by decide),if_pos h4] at e
      by_cases h5:nbN B 0 4%1073741824<64
      · rw [if_pos h5] at e;exact absurd e (by decide)
      · rw [if_neg h5] at e;exact absurd e (by decide))
   rw [if_neg (fun e=>e.elim (fun e=>absurd e.1 (by decide)) (fun e=>h4 e.2))]
   exact cLenAt_good4 v L B lB w hv (by omega) ht (by omega) ((knI_eq _ 2 (by decide)).2 (by rw [if_neg (show ¬nbN B 0 4%1073741824<64 by omega),if_neg h4,if_pos hm]))
end Go.Proofs.Ytgdcmibdjiaofaa
namespace Go.Proofs.Ytgdcmibdjiaofaa
open Go.RowKit
theorem BI.at0 {lo hi:Nat} {w:World} {v:Value} {n:Nat} {B:Nat→Nat} (h:BI lo hi w v n B) {g:Nat} {u:Value} (hc:w.cell? ⟨g,0,none⟩=some u) {m:Nat} {C:Nat→Nat} (hu:BI lo hi w u m C) (y:Value):BI lo hi (w.setCell ⟨g,0,none⟩ y) v n B:=by
 refine h.put hc (fun z e => ?_) y
 rcases hu with ⟨xo,rfl,_⟩ | ⟨bb,ob,cap,rfl,_⟩
 · cases e
 · cases e
set_option maxRecDepth 20000 in
set_option maxHeartbeats 2000000 in
theorem cPass_any (lo hi g L:Nat) (B:Nat→Nat) (r:Rd) (n:Nat) (hn:r.at_+n≤L) (w:World) (h:RdC lo hi w g L B r):Calls Try.prog 108 #[.pointer (some ⟨g,0,none⟩),.int .i64 (n:Int)] w fun e w'=>∃ v,e = .returned v∧BI lo hi w' v n (fun j=>B (r.at_+j))∧RdC lo hi w' g L B ⟨r.at_+n,r.e⟩∧Out g 0 2 w w':=by
 obtain ⟨v,⟨c0,z0⟩,-,-,hv⟩:=h.cells
 obtain ⟨xo,cx,x1,c1,x2,c2,rfl,-,hs1,hv1,hs2,hv2⟩:=hv.cut n (by omega)
 have e1:L - r.at_ - n=L - (r.at_+n):=by omega
 rw [e1] at hs2 hv2
 have hv2':BI lo hi w (.slice x2 (L - (r.at_+n)) c2) (L - (r.at_+n)) (fun j=>B (r.at_+n+j)):=hv2.cong fun j _=>by
  show B (r.at_+(n+j))=_
  rw [Nat.add_assoc]
 have H2:=Hid.mk' (h.setR (r.at_+n) hn x2 c2 hv2')
 have H1:=Hid.mk' (hv1.at0 c0 hv (.slice x2 (L - (r.at_+n)) c2))
 obtain ⟨q,hq⟩:∃ q,q=L - (r.at_+n):=⟨_,rfl⟩
 rw [←hq] at hs2 H1 H2
 obtain ⟨p,hp⟩:∃ p,p=L - r.at_:=⟨_,rfl⟩
 rw [←hp] at hs1 hs2 c0
 clear h hv hv1 hv2 hv2' e1 hp hq
 go_enter Try.func108,Try.ntmps108
 go_wp2
 go_ret
 exact ⟨_,rfl,H1.out,H2.out,Out.setCell _ _ (by decide) (by decide)⟩
set_option maxRecDepth 20000 in
set_option maxHeartbeats 2000000 in
theorem cNumR_err (lo hi g L:Nat) (B:Nat→Nat) (r:Rd) (s:Int) (he:r.e≠0) (w:World) (h:RdC lo hi w g L B r):Calls Try.prog 90 #[.pointer (some ⟨g,0,none⟩),.int .i64 s] w fun e w'=>e = .returned (.int .i64 0)∧w'=w:=by
 have c:=cReads_any lo hi g L B r w h
 rw [decide_eq_false he] at c
 clear h
 go_enter Try.func90,Try.ntmps90
 go_wp2
 refine wp_scope_fwd 0 rfl ?_
 go_wp2_with (go_at_call 106;refine c.mono ?_;clear c;rintro e w1 ⟨rfl,hw⟩;obtain rfl:=hw.symm)
 rw [jump_ret]
 go_ret
 exact ⟨rfl,rfl⟩
set_option maxRecDepth 20000 in
set_option maxHeartbeats 2000000 in
theorem cNumR_arg (lo hi g L:Nat) (B:Nat→Nat) (r:Rd) (s:Int) (he:r.e=0) (hs:szB s=false) (w:World) (h:RdC lo hi w g L B r):Calls Try.prog 90 #[.pointer (some ⟨g,0,none⟩),.int .i64 s] w fun e w'=>e = .returned (.int .i64 0)∧RdC lo hi w' g L B ⟨r.at_,1⟩∧Out g 0 2 w w':=by
 have c:=cReads_any lo hi g L B r w h
 rw [decide_eq_true he] at c
 have cs:=cSize_any s w
 rw [hs] at cs
 obtain ⟨v,-,⟨c1,z1⟩,-,-⟩:=h.cells
 have Hh:=Hid.mk' h
 clear h hs
 rw [he] at c1
 go_enter Try.func90,Try.ntmps90
 go_wp2
 refine wp_scope_fwd 0 rfl ?_
 go_wp2_with (first
  | (go_at_call 106;refine c.mono ?_;clear c;rintro e w1 ⟨rfl,hw⟩;obtain rfl:=hw.symm)
  | (go_at_call 109;refine cs.mono ?_;clear cs;rintro e w1 ⟨rfl,hw⟩;obtain rfl:=hw.symm))
 go_step3
 refine ⟨rfl,?_⟩
 go_wp2
 rw [Exit.noGoto_ret]
 go_ret
 exact ⟨rfl,Hh.out.setE 1,Out.setCell _ _ (by decide) (by decide)⟩
set_option maxRecDepth 20000 in
set_option maxHeartbeats 2000000 in
theorem cNumR_end (lo hi g L:Nat) (B:Nat→Nat) (r:Rd) (s:Nat) (he:r.e=0) (hs:szB s=true) (hq:L<r.at_+s) (w:World) (h:RdC lo hi w g L B r):Calls Try.prog 90 #[.pointer (some ⟨g,0,none⟩),.int .i64 s] w fun e w'=>e = .returned (.int .i64 0)∧RdC lo hi w' g L B ⟨r.at_,20⟩∧Out g 0 2 w w':=by
 have c:=cReads_any lo hi g L B r w h
 rw [decide_eq_true he] at c
 have cs:=cSize_any s w
 rw [hs] at cs
 obtain ⟨v,⟨c0,-⟩,⟨c1,z1⟩,-,hv⟩:=h.cells
 obtain ⟨xo,cx,-,-,-,-,rfl,-,-,-,-,-⟩:=hv.cut 0 (Nat.zero_le _)
 have Hh:=Hid.mk' h
 obtain ⟨p,hp⟩:∃ p,p=L - r.at_:=⟨_,rfl⟩
 rw [←hp] at c0
 have ha:=h.le
 have t1:(p:Int)<(s:Int):=by omega
 clear h hs hp hq hv ha
 rw [he] at c1
 go_enter Try.func90,Try.ntmps90
 go_wp2
 refine wp_scope_fwd 0 rfl ?_
 go_wp2_with (first
  | (go_at_call 106;refine c.mono ?_;clear c;rintro e w1 ⟨rfl,hw⟩;obtain rfl:=hw.symm)
  | (go_at_call 109;refine cs.mono ?_;clear cs;rintro e w1 ⟨rfl,hw⟩;obtain rfl:=hw.symm))
 go_step3
 refine ⟨rfl,?_⟩
 go_wp2
 rw [Exit.noGoto_ret]
 go_ret
 exact ⟨rfl,Hh.out.setE 20,Out.setCell _ _ (by decide) (by decide)⟩
set_option maxRecDepth 20000 in
set_option maxHeartbeats 4000000 in
theorem cNumR_range (lo hi g L:Nat) (B:Nat→Nat) (lB:∀ j,B j<256) (r:Rd) (s:Nat) (he:r.e=0) (hs:szB s=true) (hq:r.at_+s≤L) (hN:mstN s≤nbN B r.at_ s) (w:World) (h:RdC lo hi w g L B r):Calls Try.prog 90 #[.pointer (some ⟨g,0,none⟩),.int .i64 s] w fun e w'=>e = .returned (.int .i64 0)∧RdC lo hi w' g L B ⟨r.at_,11⟩∧Out g 0 2 w w':=by
 have c:=cReads_any lo hi g L B r w h
 rw [decide_eq_true he] at c
 have cs:=cSize_any s w
 rw [hs] at cs
 have hs':=szB_cases hs
 have cm:=cMost_any s (by omega) w
 obtain ⟨v,⟨c0,-⟩,⟨c1,z1⟩,-,hv⟩:=h.cells
 obtain ⟨xo,cx,x1,d1,-,-,rfl,-,hsl,hv1,-,-⟩:=hv.cut s (by omega)
 have hh:hi≤w.heap.size:=h.choose_spec.2.2.2.2
 have cj:=cJoin_any _ s _ (fun j=>lB (r.at_+j)) (by omega) w (hv1.of hh)
 rw [nbN_shift] at cj
 have Hh:=Hid.mk' h
 obtain ⟨p,hp⟩:∃ p,p=L - r.at_:=⟨_,rfl⟩
 rw [←hp] at c0 hsl
 have t1:¬(p:Int)<(s:Int):=by omega
 have hml:=mstN_lt s (by omega)
 have hmp:0<mstN s:=by
  unfold mstN
  split
  · decide
  · exact Nat.two_pow_pos _
 obtain ⟨z,hz⟩:∃ z:Int,z=((nbN B r.at_ s:Nat):Int):=⟨_,rfl⟩
 rw [←hz] at cj
 obtain ⟨y,hy⟩:∃ y:Int,y=((mstN s - 1:Nat):Int):=⟨_,rfl⟩
 rw [←hy] at cm
 have e9:IntKind.u64.wrap y=y:=by show y%18446744073709551616=y;omega
 have t2:y<z:=by omega
 clear h hs hp hq hv hv1 hs' hml hmp hz hy hN
 rw [he] at c1
 go_enter Try.func90,Try.ntmps90
 go_wp2
 refine wp_scope_fwd 0 rfl ?_
 go_wp2_with (first
  | (go_at_call 106;refine c.mono ?_;clear c;rintro e w1 ⟨rfl,hw⟩;obtain rfl:=hw.symm)
  | (go_at_call 109;refine cs.mono ?_;clear cs;rintro e w1 ⟨rfl,hw⟩;obtain rfl:=hw.symm)
  | (go_at_call 112;refine cj.mono ?_;clear cj;rintro e w1 ⟨rfl,hw⟩;obtain rfl:=hw.symm)
  | (go_at_call 110;refine cm.mono ?_;clear cm;rintro e w1 ⟨rfl,hw⟩;obtain rfl:=hw.symm))
 go_step3
 refine ⟨rfl,?_⟩
 go_wp2
 rw [Exit.noGoto_ret]
 go_ret
 exact ⟨rfl,Hh.out.setE 11,Out.setCell _ _ (by decide) (by decide)⟩
set_option maxRecDepth 20000 in
set_option maxHeartbeats 4000000 in
theorem cNumR_good (lo hi g L:Nat) (B:Nat→Nat) (lB:∀ j,B j<256) (r:Rd) (s:Nat) (he:r.e=0) (hs:szB s=true) (hq:r.at_+s≤L) (hN:nbN B r.at_ s<mstN s) (w:World) (h:RdC lo hi w g L B r):Calls Try.prog 90 #[.pointer (some ⟨g,0,none⟩),.int .i64 s] w fun e w'=>e = .returned (.int .i64 ((nbN B r.at_ s:Nat):Int))∧RdC lo hi w' g L B ⟨r.at_+s,0⟩∧Out g 0 2 w w':=by
 have c:=cReads_any lo hi g L B r w h
 rw [decide_eq_true he] at c
 have cs:=cSize_any s w
 rw [hs] at cs
 have hs':=szB_cases hs
 have cm:=cMost_any s (by omega) w
 have cp:=cPass_any lo hi g L B r s hq w h
 rw [he] at cp
 obtain ⟨v,⟨c0,-⟩,-,-,hv⟩:=h.cells
 obtain ⟨xo,cx,x1,d1,-,-,rfl,-,hsl,hv1,-,-⟩:=hv.cut s (by omega)
 have hh:hi≤w.heap.size:=h.choose_spec.2.2.2.2
 have cj:=cJoin_any _ s _ (fun j=>lB (r.at_+j)) (by omega) w (hv1.of hh)
 rw [nbN_shift] at cj
 obtain ⟨p,hp⟩:∃ p,p=L - r.at_:=⟨_,rfl⟩
 rw [←hp] at c0 hsl
 have t1:¬(p:Int)<(s:Int):=by omega
 have hml:=mstN_lt s (by omega)
 obtain ⟨z,hz⟩:∃ z:Int,z=((nbN B r.at_ s:Nat):Int):=⟨_,rfl⟩
 rw [←hz] at cj ⊢
 obtain ⟨y,hy⟩:∃ y:Int,y=((mstN s - 1:Nat):Int):=⟨_,rfl⟩
 rw [←hy] at cm
 have e9:IntKind.u64.wrap y=y:=by show y%18446744073709551616=y;omega
 have e8:wrap64 z=z:=by unfold wrap64;omega
 have E8:=Hid.mk' e8
 have t2:¬y<z:=by omega
 clear h hs hp hq hv hv1 hs' hml hz hy hN e8
 go_enter Try.func90,Try.ntmps90
 go_wp2
 refine wp_scope_fwd 0 rfl ?_
 go_wp2_with (first
  | (go_at_call 106;refine c.mono ?_;clear c;rintro e w1 ⟨rfl,hw⟩;obtain rfl:=hw.symm)
  | (go_at_call 109;refine cs.mono ?_;clear cs;rintro e w1 ⟨rfl,hw⟩;obtain rfl:=hw.symm)
  | (go_at_call 112;refine cj.mono ?_;clear cj;rintro e w1 ⟨rfl,hw⟩;obtain rfl:=hw.symm)
  | (go_at_call 110;refine cm.mono ?_;clear cm;rintro e w1 ⟨rfl,hw⟩;obtain rfl:=hw.symm)
  | (go_at_call 108;refine cp.mono ?_;clear cp;rintro e w2 ⟨v2,rfl,hv2,hr2,o2⟩))
 rw [jump_ret]
 go_ret
 exact ⟨by show Ending.returned (.int .i64 (wrap64 z))=_;rw [E8.out],hr2,o2⟩
theorem nbN_eight {B:Nat→Nat} (lB:∀ j,B j<256) (a:Nat):mstN 8≤nbN B a 8↔64≤B a:=by
 have h:∀ s,nbN B a (s+1)<(B a+1)*256 ^ s∧B a*256 ^ s≤nbN B a (s+1):=fun s=>by
  induction s with
  | zero=>show 0*256+B (a+0)<(B a+1)*1∧B a*1≤0*256+B (a+0);rw [Nat.add_zero];omega
  | succ s ih =>
   obtain ⟨h1,h2⟩:=ih
   have:=lB (a+(s+1))
   show nbN B a (s+1)*256+B (a+(s+1))<(B a+1)*(256 ^ s*256)∧B a*(256 ^ s*256)≤nbN B a (s+1)*256+B (a+(s+1))
   rw [←Nat.mul_assoc,←Nat.mul_assoc]
   generalize (B a+1)*256 ^ s=X at *
   generalize B a*256 ^ s=Y at *
   omega
 obtain ⟨h1,h2⟩:nbN B a 8<(B a+1)*256 ^ 7∧B a*256 ^ 7≤nbN B a 8:=h 7
 show 4611686018427387904≤nbN B a 8↔_
 simp only [Nat.reducePow] at h1 h2
 have:=lB a
 omega
theorem cNumR_any (lo hi g L:Nat) (B:Nat→Nat) (lB:∀ j,B j<256) (r:Rd) (s:Int) (w:World) (h:RdC lo hi w g L B r):Calls Try.prog 90 #[.pointer (some ⟨g,0,none⟩),.int .i64 s] w fun e w'=>e = .returned (.int .i64 (((numD L B s r).1:Nat):Int))∧RdC lo hi w' g L B (numD L B s r).2∧Out g 0 2 w w':=by
 have ha:=h.le
 unfold numD
 by_cases he:r.e≠0
 · rw [if_pos he]
   exact (cNumR_err lo hi g L B r s he w h).mono fun e w' ⟨h1,h2⟩=>⟨h1,by rw [h2];exact h,by rw [h2];exact Out.refl _ _ _ _⟩
 replace he:r.e=0:=Decidable.not_not.mp he
 rw [if_neg (fun e=>e he)]
 by_cases hs:szB s=false
 · rw [if_pos hs]
   exact cNumR_arg lo hi g L B r s he hs w h
 rw [if_neg hs]
 replace hs:szB s=true:=by simpa using hs
 have hs':=szB_cases hs
 obtain ⟨k,rfl⟩:∃ k:Nat,s=(k:Int):=⟨s.toNat,by omega⟩
 rw [Int.toNat_natCast]
 by_cases h1:(L:Int) - (r.at_:Int)<(k:Int)
 · rw [if_pos h1]
   exact cNumR_end lo hi g L B r k he hs (by omega) w h
 rw [if_neg h1]
 have hk:k=1∨k=2∨k=4∨k=8:=by omega
 by_cases h2:(k:Int)=8∧64≤B r.at_
 · rw [if_pos h2]
   obtain rfl:k=8:=by omega
   exact cNumR_range lo hi g L B lB r 8 he hs (by omega) ((nbN_eight lB _).2 h2.2) w h
 rw [if_neg h2]
 refine cNumR_good lo hi g L B lB r k he hs (by omega) ?_ w h
 rcases hk with rfl | rfl | rfl | rfl
 · exact nbN_lt lB _ 1
 · exact nbN_lt lB _ 2
 · exact nbN_lt lB _ 4
 · exact Nat.lt_of_not_le fun e=>h2 ⟨rfl,(nbN_eight lB _).1 e⟩
end Go.Proofs.Ytgdcmibdjiaofaa
namespace Go.Proofs.Ytgdcmibdjiaofaa
open Go.RowKit
theorem RdC.size {lo hi:Nat} {w:World} {g L:Nat} {B:Nat→Nat} {r:Rd} (h:RdC lo hi w g L B r):hi≤w.heap.size:=h.choose_spec.2.2.2.2
def lenA (L:Nat) (B:Nat→Nat) (a:Nat):Nat × Rd:=lenD (L - a) (fun j=>B (a+j)) ⟨0,0⟩
theorem lenA_eq {L:Nat} {B:Nat→Nat} {r:Rd} (ha:r.at_≤L) (he:r.e=0):lenD L B r=((lenA L B r.at_).1,⟨r.at_+(lenA L B r.at_).2.at_,(lenA L B r.at_).2.e⟩):=by
 have:=lenD_shift L B r.at_ ha
 rw [show (⟨r.at_,0⟩:Rd)=r by rw [←he]] at this
 exact this
theorem lenA_le (L:Nat) (B:Nat→Nat) (a:Nat):(lenA L B a).2.at_≤L - a∧((lenA L B a).2.e≠0→(lenA L B a).1=0∧(lenA L B a).2.at_=0):=by
 unfold lenA lenD
 rw [if_neg (fun h=>h rfl)]
 split
 · exact ⟨Nat.zero_le _,fun _=>⟨rfl,rfl⟩⟩
 · split
   · exact ⟨Nat.zero_le _,fun _=>⟨rfl,rfl⟩⟩
   · split
     · exact ⟨Nat.zero_le _,fun _=>⟨rfl,rfl⟩⟩
     · split
       · exact ⟨Nat.zero_le _,fun _=>⟨rfl,rfl⟩⟩
       · rename_i h _
         refine ⟨?_,fun e=>absurd rfl e⟩
         show 0+_≤_
         rw [Nat.sub_zero] at h
         omega
set_option maxRecDepth 20000 in
set_option maxHeartbeats 2000000 in
theorem cVecR_err (lo hi g L:Nat) (B:Nat→Nat) (r:Rd) (he:r.e≠0) (w:World) (h:RdC lo hi w g L B r):Calls Try.prog 85 #[.pointer (some ⟨g,0,none⟩)] w fun e w'=>e = .returned (.slice none 0 0)∧w'=w:=by
 have c:=cReads_any lo hi g L B r w h
 rw [decide_eq_false he] at c
 clear h
 go_enter Try.func85,Try.ntmps85
 go_wp2
 refine wp_scope_fwd 0 rfl ?_
 go_wp2_with (go_at_call 106;refine c.mono ?_;clear c;rintro e w1 ⟨rfl,hw⟩;obtain rfl:=hw.symm)
 rw [jump_ret]
 go_ret
 exact ⟨rfl,rfl⟩
set_option maxRecDepth 20000 in
set_option maxHeartbeats 2000000 in
theorem cVecR_bad (lo hi g L:Nat) (B:Nat→Nat) (lB:∀ j,B j<256) (r:Rd) (he:r.e=0) (hb:(lenA L B r.at_).2.e≠0) (w:World) (h:RdC lo hi w g L B r):Calls Try.prog 85 #[.pointer (some ⟨g,0,none⟩)] w fun e w'=>e = .returned (.slice none 0 0)∧RdC lo hi w' g L B ⟨r.at_,(lenA L B r.at_).2.e⟩∧Out g 0 2 w w':=by
 have c:=cReads_any lo hi g L B r w h
 rw [decide_eq_true he] at c
 obtain ⟨v,⟨c0,-⟩,⟨c1,z1⟩,-,hv⟩:=h.cells
 have cl:=cLenAt_any _ _ _ (fun j=>lB (r.at_+j)) w (hv.of h.size)
 obtain ⟨xo,cx,-,-,-,-,rfl,-,-,-,-,-⟩:=hv.cut 0 (Nat.zero_le _)
 have Hh:=Hid.mk' h
 have ha:=h.le
 rw [he] at c1
 replace cl:Calls Try.prog 107 #[.slice xo (L - r.at_) cx] w fun e w'=>e=ansL (lenA L B r.at_)∧w'=w:=cl
 rw [show ansL (lenA L B r.at_) = .returned (.tuple #[.int .i64 0,.int .i64 0,.int .i64 (lenA L B r.at_).2.e]) by unfold ansL;rw [((lenA_le L B r.at_).2 hb).1,((lenA_le L B r.at_).2 hb).2];rfl] at cl
 generalize (lenA L B r.at_).2.e=er at *
 generalize L - r.at_=p at *
 clear h hv ha
 go_enter Try.func85,Try.ntmps85
 go_wp2
 refine wp_scope_fwd 0 rfl ?_
 go_wp2_with (first
  | (go_at_call 106;refine c.mono ?_;clear c;rintro e w1 ⟨rfl,hw⟩;obtain rfl:=hw.symm)
  | (go_at_call 107;refine cl.mono ?_;clear cl;rintro e w1 ⟨rfl,hw⟩;obtain rfl:=hw.symm))
 go_step3
 refine ⟨rfl,?_⟩
 go_wp2
 rw [Exit.noGoto_ret]
 go_ret
 exact ⟨rfl,Hh.out.setE er,Out.setCell _ _ (by decide) (by decide)⟩
end Go.Proofs.Ytgdcmibdjiaofaa
namespace Go.Proofs.Ytgdcmibdjiaofaa
open Go.RowKit
set_option maxRecDepth 20000 in
set_option maxHeartbeats 2000000 in
theorem cVecR_form (lo hi g L:Nat) (B:Nat→Nat) (lB:∀ j,B j<256) (r:Rd) (_hL:L<140737488355000) (he:r.e=0) (hb:(lenA L B r.at_).2.e=0) (hn:65536<(lenA L B r.at_).1) (w:World) (h:RdC lo hi w g L B r):Calls Try.prog 85 #[.pointer (some ⟨g,0,none⟩)] w fun e w'=>e = .returned (.slice none 0 0)∧RdC lo hi w' g L B ⟨r.at_,21⟩∧Out g 0 2 w w':=by
 have c:=cReads_any lo hi g L B r w h
 rw [decide_eq_true he] at c
 obtain ⟨v,⟨c0,-⟩,⟨c1,z1⟩,-,hv⟩:=h.cells
 have cl:=cLenAt_any _ _ _ (fun j=>lB (r.at_+j)) w (hv.of h.size)
 obtain ⟨xo,cx,-,-,-,-,rfl,-,-,-,-,-⟩:=hv.cut 0 (Nat.zero_le _)
 have Hh:=Hid.mk' h
 have ha:=h.le
 have hle:=(lenA_le L B r.at_).1
 replace cl:Calls Try.prog 107 #[.slice xo (L - r.at_) cx] w fun e w'=>e=ansL (lenA L B r.at_)∧w'=w:=cl
 unfold ansL at cl
 rw [hb] at cl
 generalize (lenA L B r.at_).2.at_=sz at *
 generalize (lenA L B r.at_).1=n at *
 rw [he] at c1
 obtain ⟨z,hz⟩:∃ z:Int,z=(n:Int):=⟨_,rfl⟩
 rw [←hz] at cl
 have t1:(65536:Int)<z:=by omega
 clear hle hn hz
 generalize L - r.at_=p at *
 clear h hv ha hb
 go_enter Try.func85,Try.ntmps85
 go_wp2
 refine wp_scope_fwd 0 rfl ?_
 go_wp2_with (first
  | (go_at_call 106;refine c.mono ?_;clear c;rintro e w1 ⟨rfl,hw⟩;obtain rfl:=hw.symm)
  | (go_at_call 107;refine cl.mono ?_;clear cl;rintro e w1 ⟨rfl,hw⟩;obtain rfl:=hw.symm))
 go_step3
 refine ⟨rfl,?_⟩
 go_wp2
 rw [Exit.noGoto_ret]
 go_ret
 exact ⟨rfl,Hh.out.setE 21,Out.setCell _ _ (by decide) (by decide)⟩
set_option maxRecDepth 20000 in
set_option maxHeartbeats 2000000 in
theorem cVecR_end (lo hi g L:Nat) (B:Nat→Nat) (lB:∀ j,B j<256) (r:Rd) (_hL:L<140737488355000) (he:r.e=0) (hb:(lenA L B r.at_).2.e=0) (hn:¬65536<(lenA L B r.at_).1) (hq:L<r.at_+(lenA L B r.at_).2.at_+(lenA L B r.at_).1) (w:World) (h:RdC lo hi w g L B r):Calls Try.prog 85 #[.pointer (some ⟨g,0,none⟩)] w fun e w'=>e = .returned (.slice none 0 0)∧RdC lo hi w' g L B ⟨r.at_,20⟩∧Out g 0 2 w w':=by
 have c:=cReads_any lo hi g L B r w h
 rw [decide_eq_true he] at c
 obtain ⟨v,⟨c0,-⟩,⟨c1,z1⟩,-,hv⟩:=h.cells
 have cl:=cLenAt_any _ _ _ (fun j=>lB (r.at_+j)) w (hv.of h.size)
 obtain ⟨xo,cx,-,-,-,-,rfl,-,-,-,-,-⟩:=hv.cut 0 (Nat.zero_le _)
 have Hh:=Hid.mk' h
 have ha:=h.le
 have hle:=(lenA_le L B r.at_).1
 replace cl:Calls Try.prog 107 #[.slice xo (L - r.at_) cx] w fun e w'=>e=ansL (lenA L B r.at_)∧w'=w:=cl
 unfold ansL at cl
 rw [hb] at cl
 generalize (lenA L B r.at_).2.at_=sz at *
 generalize (lenA L B r.at_).1=n at *
 rw [he] at c1
 obtain ⟨z,hz⟩:∃ z:Int,z=(n:Int):=⟨_,rfl⟩
 rw [←hz] at cl
 obtain ⟨p,hp⟩:∃ p,p=L - r.at_:=⟨_,rfl⟩
 rw [←hp] at cl c0
 have t1:¬(65536:Int)<z:=by omega
 have t3:(p:Int) - (sz:Int)<z:=by omega
 have t4:wrap64 ((p:Int) - (sz:Int))<z:=by unfold wrap64;omega
 clear hle hn hz hp hq
 clear h hv ha hb
 go_enter Try.func85,Try.ntmps85
 go_wp2
 refine wp_scope_fwd 0 rfl ?_
 go_wp2_with (first
  | (go_at_call 106;refine c.mono ?_;clear c;rintro e w1 ⟨rfl,hw⟩;obtain rfl:=hw.symm)
  | (go_at_call 107;refine cl.mono ?_;clear cl;rintro e w1 ⟨rfl,hw⟩;obtain rfl:=hw.symm))
 go_step3
 refine ⟨rfl,?_⟩
 go_wp2
 rw [Exit.noGoto_ret]
 go_ret
 exact ⟨rfl,Hh.out.setE 20,Out.setCell _ _ (by decide) (by decide)⟩
set_option maxRecDepth 20000 in
set_option maxHeartbeats 2000000 in
theorem cVecR_good (lo hi g L:Nat) (B:Nat→Nat) (lB:∀ j,B j<256) (r:Rd) (hL:L<140737488355000) (he:r.e=0) (hb:(lenA L B r.at_).2.e=0) (hn:¬65536<(lenA L B r.at_).1) (hq:r.at_+(lenA L B r.at_).2.at_+(lenA L B r.at_).1≤L) (w:World) (h:RdC lo hi w g L B r):Calls Try.prog 85 #[.pointer (some ⟨g,0,none⟩)] w fun e w'=>∃ v,e = .returned v∧Own w.heap.size w' v (lenA L B r.at_).1 (fun j=>B (r.at_+(lenA L B r.at_).2.at_+j))∧RdC lo hi w' g L B ⟨r.at_+(lenA L B r.at_).2.at_+(lenA L B r.at_).1,0⟩∧Out g 0 2 w w':=by
 have c:=cReads_any lo hi g L B r w h
 rw [decide_eq_true he] at c
 obtain ⟨v,⟨c0,-⟩,⟨c1,z1⟩,-,hv⟩:=h.cells
 have cl:=cLenAt_any _ _ _ (fun j=>lB (r.at_+j)) w (hv.of h.size)
 obtain ⟨xo,cx,-,-,-,-,rfl,-,-,-,-,-⟩:=hv.cut 0 (Nat.zero_le _)
 have Hh:=Hid.mk' h
 have ha:=h.le
 have hle:=(lenA_le L B r.at_).1
 replace cl:Calls Try.prog 107 #[.slice xo (L - r.at_) cx] w fun e w'=>e=ansL (lenA L B r.at_)∧w'=w:=cl
 unfold ansL at cl
 rw [hb] at cl
 generalize (lenA L B r.at_).2.at_=sz at *
 generalize (lenA L B r.at_).1=n at *
 rw [he] at c1
 have cp:=cPass_any lo hi g L B r sz (by omega) w h
 rw [he] at cp
 have cq:=fun w2 h2=>cPass_any lo hi g L B ⟨r.at_+sz,0⟩ n hq w2 h2
 have gl:=h.lt
 have hn':n<140737488355000:=by omega
 obtain ⟨p,hp⟩:∃ p,p=L - r.at_:=⟨_,rfl⟩
 rw [←hp] at cl c0
 obtain ⟨z,hz⟩:∃ z:Int,z=(n:Int):=⟨_,rfl⟩
 rw [←hz] at cl cq
 have t1:¬(65536:Int)<z:=by omega
 have t3:¬(p:Int) - (sz:Int)<z:=by omega
 have t4:¬wrap64 ((p:Int) - (sz:Int))<z:=by unfold wrap64;omega
 clear hle hn hp hq hz
 clear h hv ha hb c1 z1 Hh
 go_enter Try.func85,Try.ntmps85
 go_wp2
 refine wp_scope_fwd 0 rfl ?_
 go_wp2_with (first
  | (go_at_call 106;refine c.mono ?_;clear c;rintro e w1 ⟨rfl,hw⟩;obtain rfl:=hw.symm)
  | (go_at_call 107;refine cl.mono ?_;clear cl;rintro e w1 ⟨rfl,hw⟩;obtain rfl:=hw.symm)
  | (go_at_call 108;refine cp.mono ?_;clear cp;rintro e w2 ⟨v2,rfl,-,hr2,o2⟩;(have cq2:=cq w2 hr2);clear cq)
  | (go_at_call 108;refine cq2.mono ?_;clear cq2;rintro e w3 ⟨v3,rfl,hv3,hr3,o3⟩;(have cc:=cClone_any v3 n _ hn' w3 (hv3.of hr3.size)))
  | (go_at_call 95;refine cc.mono ?_;clear cc;rintro e w4 ⟨u4,rfl,own4,b4⟩))
 rw [jump_ret]
 go_ret
 have o:=o2.trans o3
 exact ⟨_,rfl,World.ownsRow.mono own4 o.size,hr3.still b4,o.trans (Out.of_below b4 (Nat.lt_of_lt_of_le gl o.size))⟩
theorem cVecR_any (lo hi g L:Nat) (B:Nat→Nat) (lB:∀ j,B j<256) (r:Rd) (hL:L<140737488355000) (w:World) (h:RdC lo hi w g L B r):Calls Try.prog 85 #[.pointer (some ⟨g,0,none⟩)] w fun e w'=>∃ v,e = .returned v∧Own w.heap.size w' v (vecD L B r).1 (fun j=>B ((lenD L B r).2.at_+j))∧RdC lo hi w' g L B (vecD L B r).2∧Out g 0 2 w w':=by
 have ha:=h.le
 unfold vecD
 by_cases he:r.e≠0
 · have e0:lenD L B r=(0,r):=by unfold lenD;rw [if_pos he]
   have e1:takD L ((0:Nat):Int) r=(0,r):=by unfold takD;rw [if_pos he]
   simp only [e0,if_neg (fun (e:r.e=0∧65536<0)=>he e.1),e1,if_pos he]
   exact (cVecR_err lo hi g L B r he w h).mono fun e w' ⟨h1,h2⟩=>⟨_,h1,Own.nil _ _ _,by rw [h2];exact h,by rw [h2];exact Out.refl _ _ _ _⟩
 replace he:r.e=0:=Decidable.not_not.mp he
 rw [lenA_eq ha he]
 dsimp only
 by_cases hb:(lenA L B r.at_).2.e=0
 · by_cases hn:65536<(lenA L B r.at_).1
   · have e1:takD L (((lenA L B r.at_).1:Nat):Int) ⟨r.at_+(lenA L B r.at_).2.at_,21⟩=(0,⟨r.at_+(lenA L B r.at_).2.at_,21⟩):=by unfold takD;exact if_pos (fun e=>by cases e)
     rw [if_pos (show (lenA L B r.at_).2.e=0∧65536<(lenA L B r.at_).1 from ⟨hb,hn⟩),e1,if_pos (show (21:Int)≠0 by decide)]
     exact (cVecR_form lo hi g L B lB r hL he hb hn w h).mono fun e w' ⟨h1,h2,h3⟩=>⟨_,h1,Own.nil _ _ _,h2,h3⟩
   rw [if_neg (fun (e:(lenA L B r.at_).2.e=0∧65536<(lenA L B r.at_).1)=>hn e.2),hb]
   by_cases hq:L<r.at_+(lenA L B r.at_).2.at_+(lenA L B r.at_).1
   · have e1:takD L (((lenA L B r.at_).1:Nat):Int) ⟨r.at_+(lenA L B r.at_).2.at_,0⟩=(0,⟨r.at_+(lenA L B r.at_).2.at_,20⟩):=by
      unfold takD
      rw [if_neg (fun e=>e rfl),if_neg (by omega),if_pos (by show (L:Int) - ((r.at_+(lenA L B r.at_).2.at_:Nat):Int)<_;omega)]
     rw [e1,if_pos (show (20:Int)≠0 by decide)]
     exact (cVecR_end lo hi g L B lB r hL he hb hn hq w h).mono fun e w' ⟨h1,h2,h3⟩=>⟨_,h1,Own.nil _ _ _,h2,h3⟩
   · have e1:takD L (((lenA L B r.at_).1:Nat):Int) ⟨r.at_+(lenA L B r.at_).2.at_,0⟩=((lenA L B r.at_).1,⟨r.at_+(lenA L B r.at_).2.at_+(lenA L B r.at_).1,0⟩):=by
      unfold takD
      rw [if_neg (fun e=>e rfl),if_neg (by omega),if_neg (by show ¬(L:Int) - ((r.at_+(lenA L B r.at_).2.at_:Nat):Int)<_;omega),Int.toNat_natCast]
     rw [e1,if_neg (show ¬(0:Int)≠0 from fun e=>e rfl)]
     exact cVecR_good lo hi g L B lB r hL he hb hn (by omega) w h
 · have hz:=(lenA_le L B r.at_).2 hb
   have e1:takD L (((lenA L B r.at_).1:Nat):Int) ⟨r.at_+(lenA L B r.at_).2.at_,(lenA L B r.at_).2.e⟩=(0,⟨r.at_+(lenA L B r.at_).2.at_,(lenA L B r.at_).2.e⟩):=by unfold takD;rw [if_pos hb]
   rw [if_neg (fun (e:(lenA L B r.at_).2.e=0∧65536<(lenA L B r.at_).1)=>hb e.1),e1,if_pos hb]
   exact (cVecR_bad lo hi g L B lB r he hb w h).mono fun e w' ⟨h1,h2,h3⟩=>⟨_,h1,Own.nil _ _ _,h2,h3⟩
end Go.Proofs.Ytgdcmibdjiaofaa
namespace Go.Proofs.Ytgdcmibdjiaofaa
open Go.RowKit
theorem run_append_zeros_nil (w:World) (ty:TypeId) (m:Nat) (h0:0<m) (hm:m≤1000000) :
 (Builtin.append_ #[22,3] ty #[.slice none 0 0,.int .i64 m]).run Try.prog w =
  .ok (.slice (some ⟨w.heap.size,0,none⟩) m (grownCap w m 0 5)) (w.drew.alloc (.cells ((ints .u8 m (fun _=>0)).toArray ++ Builtin.zeroCells #[.int .u8 0] (grownCap w m 0 5 - m)) 5)):=by
 obtain ⟨i,hi,hz,hz1,hz2⟩:=info_parts Try.info5
 have h63':¬ (9223372036854775807<(m:Int)):=by omega
 have hw:IntKind.i64.wrap (m:Int)=m:=by simp only [IntKind.wrap_i64];omega
 have hl0:¬((m:Int)<0):=by omega
 have h48:¬ (281474976710656<(m:Int)):=by omega
 have hm0:¬(m=0):=by omega
 have hai:∀ W,Sem.run Try.prog (asInt (.int .i64 (m:Int))) W = .ok (m:Int) W:=fun _=>rfl
 have hc:(Value.int IntKind.u8 0).cells=#[.int .u8 0]:=rfl
 have hu:=run_underlying (P:=Try.prog) Try.underlying22
 have hu2:=run_underlying (P:=Try.prog) Try.underlying3
 have hns:¬ (281474976710656<Builtin.nextslicecap m 0):=by rw [nextslicecap_zero h0];omega
 simp [Builtin.append_,hu,hu2,sizeOf,typeInfo,zeroValue,hi,hz,hai,hw,hl0,h48,hz1,hz2,h63',Question.forced,run_firstCells_none,newRow,grownCap,hc,hm0,hns]
 rw [zeroCells_u8 m]
theorem append_zeros0 (w:World) (ty:TypeId) (m:Nat) (h0:0<m) (hm:m≤1000000) :
 ∃ g cap w',(Builtin.append_ #[22,3] ty #[.slice none 0 0,.int .i64 m]).run Try.prog w = .ok (.slice (some ⟨g,0,none⟩) m cap) w'∧m≤cap∧Own w.heap.size w' (.slice (some ⟨g,0,none⟩) 0 cap) 0 (fun _=>0)∧Below w.heap.size w w':=by
 have hge:=grownCap_ge w m 0 5
 have hcm:=grownCap_le_maxLen w m 0 5 (by unfold maxLen;omega)
 refine ⟨_,_,_,run_append_zeros_nil w ty m h0 hm,hge,⟨rfl,.inr ⟨w.heap.size,_,_,rfl,Nat.le_refl _,heap_alloc_new w.drew _,Nat.zero_le _,hcm,?_,rfl⟩⟩,((Below.refl _ _).drew).alloc (Nat.le_refl _) _⟩
 simp only [Array.size_append,List.size_toArray,size_zeroCells,ints_len]
 simp
 omega
theorem wpList_append_zeros0 {w:World} {ops:Array Oper} {rest:List Oper} {o:Oper} {a:Act} {Q:Exit→Act→World→Prop} (hgd:o.guard=none) (s x:Operand)
 (ho:o.op = .call { callee := .builtin .append,args:=#[s,x],argTypes:=#[22,3] }) (hs:a.eval s = .slice none 0 0) (m:Nat) (hx:a.eval x = .int .i64 m) (h0:0<m) (hm:m≤1000000)
 (h:∀ g cap w',m≤cap→Own w.heap.size w' (.slice (some ⟨g,0,none⟩) 0 cap) 0 (fun _=>0)→Below w.heap.size w w'→wpList Try.prog ops Q rest (a.put o.dst (.slice (some ⟨g,0,none⟩) m cap)) w'):wpList Try.prog ops Q (o :: rest) a w:=by
 refine wpList_plain hgd fun K hK => ?_
 obtain ⟨g,cap,w',h1,h2,h3,h4⟩:=append_zeros0 w o.type m h0 hm
 unfold Oper.wp execOp
 simp only [ho,resolve,invoke,builtin,Sem.run_bind,Sem.run_pure,Result.andThen_ok,List.map_toArray,List.map_cons,List.map_nil,hs,hx,h1]
 exact hK _ _ (h g cap w' h2 h3 h4)
set_option maxRecDepth 20000 in
set_option maxHeartbeats 4000000 in
theorem grow_any (m:Nat) (h0:0<m) (hm:m≤1000000) (w:World) :
 Calls Try.prog 120 #[.slice none 0 0,.int .i64 m] w fun e w'=>∃ g cap,e = .returned (.slice (some ⟨g,0,none⟩) 0 cap)∧Own w.heap.size w' (.slice (some ⟨g,0,none⟩) 0 cap) 0 (fun _=>0)∧Below w.heap.size w w':=by
 have e1:¬((m:Int)<0):=by omega
 have e2:(0:Int)<(m:Int):=by omega
 have e3:IntKind.i64.wrap ((m:Int) - 0)=(m:Int):=by simp only [IntKind.wrap_i64];omega
 have e4:IntKind.i64.wrap (m:Int)=(m:Int):=by simp only [IntKind.wrap_i64];omega
 go_enter Try.func120,Try.ntmps120
 go_wp2_with (at_builtin;refine wpList_append_zeros0 rfl (.tmp 20) (.tmp 21) rfl rfl m rfl h0 hm ?_;intro g cap w1 hcap own hb)
 go_ret
 exact ⟨g,cap,rfl,own,hb⟩
end Go.Proofs.Ytgdcmibdjiaofaa
