/- What the proof stands on: G9RU, G9RG, G9Str, ZE. -/
import Derived.Test.YtibdhadbflfdpaaGreatDoorA8Op3M
import Derived.Test.YtibdhadbflfdpaaGreatDoorG9MathM
import Derived.Test.YtibdhadbflfdpaaGreatDoorLentM
import Derived.Test.YtibdhadbflfdpaaGreatDoorPNumM
namespace Go.Proofs.YtibdhadbflfdpaaGreatDoor
open Go.RowKit
theorem run_append_gen (w:World) (base:Nat) (v:Value) (n:Nat) (F:Nat→Nat) (y:Int) (hF:y=(F n:Int)) (hown:Own base w v n F) (hl:n+1≤1000000) (hbase:base≤w.heap.size) :
 ∃ g' cap' w',(Builtin.append_ #[22,22] 22 #[v,.slice (some ⟨w.heap.size,0,none⟩) 1 1]).run Tryz.prog (w.alloc (.cells #[.int .u8 y] 5)) = .ok (.slice (some ⟨g',0,none⟩) (n+1) cap') w' ∧
  Own base w' (.slice (some ⟨g',0,none⟩) (n+1) cap') (n+1) F∧Below base w w'∧((∃ c,v = .slice (some ⟨g',0,none⟩) n c)∨w.heap.size≤g')∧(∀ b o,b<w.heap.size→(∀ c,v ≠ .slice (some ⟨b,0,none⟩) n c)→w'.cell? ⟨b,o,none⟩=w.cell? ⟨b,o,none⟩∧w'.frozen? ⟨b,o,none⟩=w.frozen? ⟨b,o,none⟩):=by
 rcases hown.form with ⟨rfl,rfl⟩ | ⟨g,cap,rfl,-,-,-,-⟩
 · obtain ⟨i0,hi,hz0,hz1,hz2⟩:=info_parts Tryz.info5
   subst hF
   have hbA:Below w.heap.size w (w.alloc (.cells #[.int .u8 (F 0:Int)] 5)):=(Below.refl _ _).alloc (Nat.le_refl _) _
   have hz:base≤(w.alloc (.cells #[.int .u8 (F 0:Int)] 5)).heap.size:=Nat.le_trans hbase hbA.size
   have ownA:=hown.below hbA
   obtain ⟨v',w',hr,h1,h2,h3,h5⟩:=run_append_own_at (P:=Tryz.prog) _ base 22 22 5 i0 (.int .u8 0) 1 1 Tryz.underlying22 hi hz0 hz1 hz2 rfl (by decide) _ 0 _ ownA ⟨w.heap.size,0,none⟩ 1 1 [.int .u8 (F 0:Int)] rfl (one_new w (.int .u8 (F 0:Int)) 5) (one_cell _ _) (by unfold maxLen;omega) (by omega) hz
   have o1:Own base w' v' 1 F:=by
    unfold Own
    exact h1
   obtain ⟨g',cap',rfl,-,-,-,-⟩:=o1.form.resolve_left (fun h=>by omega)
   refine ⟨g',cap',w',hr,o1,?_,.inr ?_,fun b o hb _ => ?_⟩
   · exact (hbA.mono hbase).trans (Own.grown (v := .slice none 0 0) (Below.refl _ _) h2 ownA (Nat.le_refl _) hz)
   · rcases h5 with h5 | h5
     · cases h5
     · have e:g'=(w.alloc (.cells #[.int .u8 (F 0:Int)] 5)).heap.size:=by simpa [Value.ownBlock] using h5
       rw [e];exact hbA.size
   · have hk:=h2.block b (by have:=hbA.size;omega) (by simp [Value.ownBlock])
     exact ⟨(World.cell?_of_block hk).trans (hbA.cell (p:=⟨b,o,none⟩) hb),(World.frozen?_of_block hk).trans (hbA.frozen (p:=⟨b,o,none⟩) hb)⟩
 · obtain ⟨g',cap',w',h1,h2,h3,h4,h5,-⟩:=run_append_both w base g cap n F y hF hown hl hbase
   refine ⟨g',cap',w',h1,h2,h3,?_,fun b o hb hne=>h5 b o hb (fun e=>hne cap (by rw [e]))⟩
   rcases h4 with rfl | h4
   · exact .inl ⟨cap,rfl⟩
   · exact .inr h4
theorem step_append_gen {ops:Array Oper} {o:Oper} {a:Act} {w:World} {K:Act→World→Prop} {Q:Exit→Act→World→Prop} {E:Prop} (hgd:o.guard=none) (s x:Operand)
 (ho:o.op = .call { callee := .builtin .append,args:=#[s,x],argTypes:=#[22,22] }) (hty:o.type=22) (base:Nat) (v:Value) (n:Nat) (F:Nat→Nat) (y:Int) (hs:a.eval s=v) (hown:Own base w v n F) (h:Nat) (hh:w.heap.size=h) (hx:a.eval x = .slice (some ⟨h,0,none⟩) 1 1) (hF:y=(F n:Int))
 (hl:n+1≤1000000) (hbase:base≤w.heap.size)
 (H:∀ g' cap' w',Own base w' (.slice (some ⟨g',0,none⟩) (n+1) cap') (n+1) F→Below base w w'→((∃ c,v = .slice (some ⟨g',0,none⟩) n c)∨w.heap.size≤g')→(∀ b o,b<w.heap.size→(∀ c,v ≠ .slice (some ⟨b,0,none⟩) n c)→w'.cell? ⟨b,o,none⟩=w.cell? ⟨b,o,none⟩∧w'.frozen? ⟨b,o,none⟩=w.frozen? ⟨b,o,none⟩)→K (a.put o.dst (.slice (some ⟨g',0,none⟩) (n+1) cap')) w') :
 if Region.wanted o (yielded ops a.tmps)=true then Oper.wp Tryz.prog o a (w.alloc (.cells #[.int .u8 y] 5)) K Q else E:=by
 have hw:Region.wanted o (yielded ops a.tmps)=true:=by simp [Region.wanted,hgd]
 rw [if_pos hw]
 subst hh
 obtain ⟨g',cap',w',hrun,h1,h2,h3,h4⟩:=run_append_gen w base v n F y hF hown hl hbase
 unfold Oper.wp
 simp [execOp,ho,hty,resolve,invoke,builtin,hs,hx,hrun,Result.andThen]
 exact H g' cap' w' h1 h2 h3 h4
theorem Own.ne_two {base:Nat} {w w':World} {v:Value} {n g:Nat} {X:Nat→Nat} (_:Own base w' v n X) (h:Own base w v n X) (hg:w.heap.size≤g):∀ c,v ≠ .slice (some ⟨g,0,none⟩) n c:=fun c e=>by
 subst e
 rcases h.form with ⟨e,_⟩ | ⟨g',cap',e,_,hl,_⟩
 · cases e
 · cases e;omega
theorem Own.ne_old {base:Nat} {w:World} {v:Value} {n g:Nat} {X:Nat→Nat} (h:Own base w v n X) (hg:g<base):∀ c,v ≠ .slice (some ⟨g,0,none⟩) n c:=fun c e=>by
 subst e
 rcases h.form with ⟨e,_⟩ | ⟨g',cap',e,hb,_,_⟩
 · cases e
 · cases e;omega
def trN (ks nn X:Nat→Nat) (j:Nat):Nat:=X j ^^^ ctB ks nn (2+j / 16) (j%16)
theorem trN_lt {ks nn X:Nat→Nat} (hk:∀ j,ks j<256) (hn:∀ j,nn j<256) (hX:∀ j,X j<256) (j:Nat):trN ks nn X j<256:=xor_byte (hX j) (ctB_B hk hn _ _ (by omega))
set_option maxRecDepth 20000 in
set_option maxHeartbeats 8000000 in
theorem turned_r (v u t:Value) (n:Nat) (ks nn X:Nat→Nat) (hn:n<200000) (hks:∀ j,ks j<256) (hnn:∀ j,nn j<256) (hX:∀ j,X j<256) (w:World) (hv:BytesIn w v 16 ks) (hu:BytesIn w u 12 nn) (ht:BytesIn w t n X) :
 Calls Tryz.prog 201 #[v,u,t] w fun e w'=>∃ s,e = .returned s∧Own w.heap.size w' s n (trN ks nn X)∧Below w.heap.size w w':=by
 have cc:=fun k (hk:k<1000000) W hb=>counter_any v u ks nn k hk hks hnn W (hv.keep hb) (hu.keep hb)
 have hcB:=fun k=>ctB_B hks hnn k
 have hTe:∀ j,X j ^^^ ctB ks nn (2+j / 16) (j%16)=trN ks nn X j:=fun _=>rfl
 generalize trN ks nn X=T at *
 generalize ctB ks nn=C at *
 obtain ⟨xv,cv,rfl,-,-,-⟩:=hv.src
 obtain ⟨xu,cu,rfl,-,-,-⟩:=hu.src
 obtain ⟨xt,ct,rfl,-,-,-⟩:=ht.src
 clear hv hu hks hnn
 go_enter Tryz.func201,Tryz.ntmps201
 go_wp2
 go_loopw [7,8,9] (fun o x i wr=>∃ k:Nat,k≤n∧i = .int .i64 k∧Own w.heap.size wr o k T∧(k%16≠0→∃ gx cx,x = .slice (some ⟨gx,0,none⟩) 16 cx∧RowAt .u8 wr gx 0 16 (C (2+k / 16))∧(∀ c,o ≠ .slice (some ⟨gx,0,none⟩) k c))∧Below w.heap.size w wr) (fun _ _ i _=>n - (intOf i).toNat)
 case atStart=>exact ⟨0,Nat.zero_le _,rfl,Own.nil _ _ _,fun h=>absurd rfl h,Below.refl _ _⟩
 case round =>
  obtain ⟨k,hk,rfl,own,hxk,b⟩:=hrel
  by_cases hlt:k<n
  · obtain ⟨bb,ob,cb,hvt,hbb,-,hcell⟩:=ht.resolve_left (fun ⟨_,_,h⟩=>by omega)
    cases hvt
    have hlt':(k:Int)<(n:Int):=by omega
    have hq:=u8_xor_nat (X k) (C (2+k / 16) (k%16)) (hX k) (hcB _ _ (by omega))
    rw [hTe k] at hq
    have r1:wr.cell? ⟨bb,ob+k,none⟩=some (.int .u8 (X k)):=(b.cell (p:=⟨bb,ob+k,none⟩) hbb).trans (hcell k hlt)
    have q1:(0:Int)≤(k:Int)∧(k:Int)<(n:Int):=by omega
    have q2:(0:Int)≤(k:Int)%16∧(k:Int)%16<16:=by omega
    have q3:((k:Int)%16).toNat=k%16:=by omega
    have m1:k+1≤n:=by omega
    have m2:k+1≤1000000:=by omega
    by_cases h16:k%16=0
    · have q4:((k:Int)%16 == 0)=true:=beq_iff_eq.2 (by omega)
      obtain ⟨z,hz⟩:∃ z,z=2+k / 16:=⟨_,rfl⟩
      have e1:IntKind.i64.wrap (2+(k:Int) / 16)=(z:Int):=by simp only [IntKind.wrap_i64];omega
      have e2:2+(k:Int) / 16=(z:Int):=by omega
      have c1:=cc z (by omega) wr b
      have Hz:=Hid.mk' hz
      clear hz
      clear cc hxk
      go_upto_region 8 with (go_at_call 238;refine c1.mono ?_;clear c1;rintro e w3 ⟨s3,rfl,⟨gx,cx,hs3,hgx,hcx,hr3⟩,hb3⟩;subst hs3)
      rw [Hz.out] at hr3
      have nox:=(own.below hb3).ne_two own hgx
      have own3:=own.below hb3
      have b3:=below_next b hb3
      have r13:w3.cell? ⟨bb,ob+k,none⟩=some (.int .u8 (X k)):=(b3.cell (p:=⟨bb,ob+k,none⟩) hbb).trans (hcell k hlt)
      clear e1 e2 r1 hb3 hgx
      obtain ⟨r2,-⟩:=hr3 (k%16) (by omega)
      obtain ⟨r,hr⟩:∃ r,r=k%16:=⟨_,rfl⟩
      have t1:(k:Int).tmod 16=(r:Int):=by rw [Int.tmod_eq_emod_of_nonneg (by omega)];omega
      have t3:(0:Int)≤(r:Int)∧(r:Int)<16:=by omega
      have hnext:(k+1)%16≠0→2+(k+1) / 16=2+k / 16:=fun h=>by omega
      rw [←hr] at r2 hq
      rw [Nat.zero_add] at r2
      have gxl:gx<w3.heap.size:=block_lt_of_cell r2
      have bbl:bb<w3.heap.size:=Nat.lt_of_lt_of_le hbb b3.size
      have nob:=own3.ne_old hbb
      have own0:Own w.heap.size w3.drew _ k T:=own3.below ((Below.refl _ _).drew)
      have hsz0:w.heap.size≤w3.drew.heap.size:=b3.size
      obtain ⟨y1,hy1⟩:∃ y,y=X k:=⟨_,rfl⟩
      obtain ⟨y2,hy2⟩:∃ y,y=C (2+k / 16) r:=⟨_,rfl⟩
      rw [←hy1] at r13 hq
      rw [←hy2] at r2 hq
      have hS0:w3.drew.cell? ⟨bb,ob+k,none⟩=some (.int .u8 y1)∧w3.drew.cell? ⟨gx,r,none⟩=some (.int .u8 y2):=⟨r13,r2⟩
      have hSA:∀ ob':Obj,(w3.drew.alloc ob').cell? ⟨bb,ob+k,none⟩=some (.int .u8 y1)∧(w3.drew.alloc ob').cell? ⟨gx,r,none⟩=some (.int .u8 y2):=fun ob'=>by
       have hb:Below w3.drew.heap.size w3.drew (w3.drew.alloc ob'):=(Below.refl _ _).alloc (Nat.le_refl _) _
       exact ⟨(hb.cell (p:=⟨bb,ob+k,none⟩) bbl).trans r13,(hb.cell (p:=⟨gx,r,none⟩) gxl).trans r2⟩
      have hS1:∀ w':World,(w'.cell? ⟨bb,ob+k,none⟩=some (.int .u8 y1)∧w'.cell? ⟨gx,r,none⟩=some (.int .u8 y2))→w'.cell? ⟨bb,ob+k,none⟩=some (.int .u8 y1):=fun _ h=>h.1
      have hS2:∀ w':World,(w'.cell? ⟨bb,ob+k,none⟩=some (.int .u8 y1)∧w'.cell? ⟨gx,r,none⟩=some (.int .u8 y2))→w'.cell? ⟨gx,r,none⟩=some (.int .u8 y2):=fun _ h=>h.2
      clear hr q2 q3 q4 h16 hy1 hy2 hcB hTe hX hcell ht r13 r2 own own3 b
      go_region_held3 (fun w'=>w'.cell? ⟨bb,ob+k,none⟩=some (.int .u8 y1)∧w'.cell? ⟨gx,r,none⟩=some (.int .u8 y2)) (first | assumption | exact hSA _) (first | (refine step_append_gen rfl (.tmp 25) (.tmp 36) rfl rfl w.heap.size _ k T _ rfl own0 _ rfl rfl rfl m2 hsz0 ?_;intro g' cap' w' own1 hbx2 hg' hfar;(have hSw:w'.cell? ⟨bb,ob+k,none⟩=some (.int .u8 y1)∧w'.cell? ⟨gx,r,none⟩=some (.int .u8 y2):=⟨(hfar _ _ bbl nob).1.trans hS0.1,(hfar _ _ gxl nox).1.trans hS0.2⟩)))
      have hrT1:RowAt .u8 w' gx 0 16 (C (2+k / 16)):=fun j hj=>by
       obtain ⟨a1,a2⟩:=hr3 j hj
       obtain ⟨c1,c2⟩:=hfar gx (0+j) gxl nox
       exact ⟨c1.trans a1,c2.trans a2⟩
      have ng':∀ c,Value.slice (some ⟨g',0,none⟩) (k+1) cap' ≠ .slice (some ⟨gx,0,none⟩) (k+1) c:=fun c e=>by
       cases e
       rcases hg' with ⟨c',e'⟩ | h
       · exact nox c' e'
       · exact absurd gxl (Nat.not_lt.2 h)
      have b':Below w.heap.size w w':=(b3.drew).trans hbx2
      clear hS0 hSA hS1 hS2 hq hfar hg' hbx2 own0 hr3
      go_wp2
      go_roundw
      case rel=>exact ⟨k+1,m1,by go_num,own1,fun h=>⟨gx,cx,rfl,by rw [hnext h];exact hrT1,ng'⟩,b'⟩
      case measure=>simp [intOf];omega
    · have q4:((k:Int)%16 == 0)=false:=beq_false_of_ne (by omega)
      obtain ⟨gx,cx,hs3,hr3,nox⟩:=hxk h16
      subst hs3
      have own3:=own
      have b3:=b
      have r13:=r1
      clear r1 hxk
      go_upto_region 8 with (fail)
      obtain ⟨r2,-⟩:=hr3 (k%16) (by omega)
      obtain ⟨r,hr⟩:∃ r,r=k%16:=⟨_,rfl⟩
      have t1:(k:Int).tmod 16=(r:Int):=by rw [Int.tmod_eq_emod_of_nonneg (by omega)];omega
      have t3:(0:Int)≤(r:Int)∧(r:Int)<16:=by omega
      have hnext:(k+1)%16≠0→2+(k+1) / 16=2+k / 16:=fun h=>by omega
      rw [←hr] at r2 hq
      rw [Nat.zero_add] at r2
      have gxl:gx<wr.heap.size:=block_lt_of_cell r2
      have bbl:bb<wr.heap.size:=Nat.lt_of_lt_of_le hbb b3.size
      have nob:=own3.ne_old hbb
      have own0:Own w.heap.size wr.drew _ k T:=own3.below ((Below.refl _ _).drew)
      have hsz0:w.heap.size≤wr.drew.heap.size:=b3.size
      obtain ⟨y1,hy1⟩:∃ y,y=X k:=⟨_,rfl⟩
      obtain ⟨y2,hy2⟩:∃ y,y=C (2+k / 16) r:=⟨_,rfl⟩
      rw [←hy1] at r13 hq
      rw [←hy2] at r2 hq
      have hS0:wr.drew.cell? ⟨bb,ob+k,none⟩=some (.int .u8 y1)∧wr.drew.cell? ⟨gx,r,none⟩=some (.int .u8 y2):=⟨r13,r2⟩
      have hSA:∀ ob':Obj,(wr.drew.alloc ob').cell? ⟨bb,ob+k,none⟩=some (.int .u8 y1)∧(wr.drew.alloc ob').cell? ⟨gx,r,none⟩=some (.int .u8 y2):=fun ob'=>by
       have hb:Below wr.drew.heap.size wr.drew (wr.drew.alloc ob'):=(Below.refl _ _).alloc (Nat.le_refl _) _
       exact ⟨(hb.cell (p:=⟨bb,ob+k,none⟩) bbl).trans r13,(hb.cell (p:=⟨gx,r,none⟩) gxl).trans r2⟩
      have hS1:∀ w':World,(w'.cell? ⟨bb,ob+k,none⟩=some (.int .u8 y1)∧w'.cell? ⟨gx,r,none⟩=some (.int .u8 y2))→w'.cell? ⟨bb,ob+k,none⟩=some (.int .u8 y1):=fun _ h=>h.1
      have hS2:∀ w':World,(w'.cell? ⟨bb,ob+k,none⟩=some (.int .u8 y1)∧w'.cell? ⟨gx,r,none⟩=some (.int .u8 y2))→w'.cell? ⟨gx,r,none⟩=some (.int .u8 y2):=fun _ h=>h.2
      clear hr q2 q3 q4 h16 hy1 hy2 hcB hTe hX hcell ht r13 r2 cc own
      go_region_held3 (fun w'=>w'.cell? ⟨bb,ob+k,none⟩=some (.int .u8 y1)∧w'.cell? ⟨gx,r,none⟩=some (.int .u8 y2)) (first | assumption | exact hSA _) (first | (refine step_append_gen rfl (.tmp 25) (.tmp 36) rfl rfl w.heap.size _ k T _ rfl own0 _ rfl rfl rfl m2 hsz0 ?_;intro g' cap' w' own1 hbx2 hg' hfar;(have hSw:w'.cell? ⟨bb,ob+k,none⟩=some (.int .u8 y1)∧w'.cell? ⟨gx,r,none⟩=some (.int .u8 y2):=⟨(hfar _ _ bbl nob).1.trans hS0.1,(hfar _ _ gxl nox).1.trans hS0.2⟩)))
      have hrT1:RowAt .u8 w' gx 0 16 (C (2+k / 16)):=fun j hj=>by
       obtain ⟨a1,a2⟩:=hr3 j hj
       obtain ⟨c1,c2⟩:=hfar gx (0+j) gxl nox
       exact ⟨c1.trans a1,c2.trans a2⟩
      have ng':∀ c,Value.slice (some ⟨g',0,none⟩) (k+1) cap' ≠ .slice (some ⟨gx,0,none⟩) (k+1) c:=fun c e=>by
       cases e
       rcases hg' with ⟨c',e'⟩ | h
       · exact nox c' e'
       · exact absurd gxl (Nat.not_lt.2 h)
      have b':Below w.heap.size w w':=(b3.drew).trans hbx2
      clear hS0 hSA hS1 hS2 hq hfar hg' hbx2 own0 hr3
      go_wp2
      go_roundw
      case rel=>exact ⟨k+1,m1,by go_num,own1,fun h=>⟨gx,cx,rfl,by rw [hnext h];exact hrT1,ng'⟩,b'⟩
      case measure=>simp [intOf];omega
  · obtain rfl:k=n:=by omega
    clear cc hcB hTe hX hxk
    go_wp2
    go_ret
    exact ⟨_,rfl,own,b⟩
end Go.Proofs.YtibdhadbflfdpaaGreatDoor
namespace Go.Proofs.YtibdhadbflfdpaaGreatDoor
open Go.RowKit
def auN (ml:Nat) (M:Nat→Nat) (dl:Nat) (D:Nat→Nat):Nat→Nat:=cat (pad ml+pad dl+8) (cat (pad ml+pad dl) (cat (pad ml) (gpadN ml M) (gpadN dl D)) (lnN ml)) (lnN dl)
def h0N (ks:Nat→Nat):Nat→Nat:=blkN (kyN ks) (fun _=>0)
def tgN (ks nn:Nat→Nat) (ml:Nat) (M:Nat→Nat) (dl:Nat) (D:Nat→Nat) (j:Nat):Nat:=ctB ks nn 1 j ^^^ hsN (h0N ks) (pad ml+pad dl+16) (auN ml M dl D) j
theorem lnN_lt (n j:Nat):lnN n j<256:=by
 unfold lnN
 split
 · decide
 · exact be4_lt _ _
theorem auN_lt {ml dl:Nat} {M D:Nat→Nat} (hM:∀ j,M j<256) (hD:∀ j,D j<256):∀ j,auN ml M dl D j<256:=cat_lt (cat_lt (cat_lt (padN_lt hM) (padN_lt hD)) (lnN_lt _)) (lnN_lt _)
theorem hsN_lt (h:Nat→Nat) (n:Nat) (X:Nat→Nat) (j:Nat):hsN h n X j<256:=hsS_lt _ _ _ j
theorem RowS.srcOf {w:World} {v:Value} {n:Nat} {X:Nat→Nat} (h:RowS w v n X):∃ g c,v = .slice (some ⟨g,0,none⟩) n c∧∀ w',Below w.heap.size w w'→Src w' (some ⟨g,0,none⟩) n X:=by
 obtain ⟨g,cap,rfl,hc,hr⟩:=h
 exact ⟨g,cap,rfl,fun w' hb => .inr ⟨g,0,rfl,fun j hj=>((hr.still hb) j hj).1⟩⟩
set_option maxRecDepth 20000 in
set_option maxHeartbeats 8000000 in
theorem rtag_any (v u m d:Value) (ml dl:Nat) (ks nn M D:Nat→Nat) (hml:ml<200000) (hdl:dl<200000) (hks:∀ j,ks j<256) (hnn:∀ j,nn j<256) (hM:∀ j,M j<256) (hD:∀ j,D j<256) (w:World) (hv:BytesIn w v 16 ks) (hu:BytesIn w u 12 nn) (hm:BytesIn w m ml M) (hd:BytesIn w d dl D) :
 Calls Tryz.prog 202 #[v,u,m,d] w fun e w'=>∃ s,e = .returned s∧RowF w.heap.size w' s 16 (tgN ks nn ml M dl D)∧Below w.heap.size w w':=by
 have hmk:=make_bytes w 16 16 rfl (by decide)
 have hz0:=RowAt.zero w 16 5
 have b1:Below w.heap.size w (w.alloc (.cells (zb 16) 5)):=(Below.refl _ _).alloc (Nat.le_refl _) _
 have cB:=rBlock_good v (.slice (some ⟨w.heap.size,0,none⟩) 16 16) ks (fun _=>0) hks (fun _ _=>(by decide:0<256)) _ (hv.keep b1) (rowB hz0 (by decide) (Nat.le_refl _))
 have cf1:=fun W hb=>full_any m ml M W (hm.keep hb) (by omega)
 have cf2:=fun W hb=>full_any d dl D W (hd.keep hb) (by omega)
 have cl1:=glength_any ml (by omega)
 have cl2:=glength_any dl (by omega)
 have hpm:pad ml<200016:=by unfold pad;omega
 have hpd:pad dl<200016:=by unfold pad;omega
 have cH:=fun x y W hx hy=>rHash_good x y (pad ml+pad dl+16) (h0N ks) (auN ml M dl D) (blkN_B (fun _ _=>(by decide:0<256)) (kyN_lt hks)) (auN_lt hM hD) (by omega) W hx hy
 have cc:=fun W hb=>counter_any v u ks nn 1 (by decide) hks hnn W (hv.keep hb) (hu.keep hb)
 have hcB:=ctB_B hks hnn 1
 have hhl:=hsN_lt (h0N ks) (pad ml+pad dl+16) (auN ml M dl D)
 have hqe:∀ j,ctB ks nn 1 j ^^^ hsN (h0N ks) (pad ml+pad dl+16) (auN ml M dl D) j=tgN ks nn ml M dl D j:=fun _=>rfl
 have hau:auN ml M dl D=cat (pad ml+pad dl+8) (cat (pad ml+pad dl) (cat (pad ml) (gpadN ml M) (gpadN dl D)) (lnN ml)) (lnN dl):=rfl
 rw [show blkN (kyN ks) (fun _=>0)=h0N ks from rfl] at cB
 generalize tgN ks nn ml M dl D=T at *
 generalize ctB ks nn 1=C at *
 generalize hsN (h0N ks) (pad ml+pad dl+16) (auN ml M dl D)=H at *
 generalize h0N ks=H0 at *
 generalize auN ml M dl D=AU at *
 generalize gpadN ml M=PM at *
 generalize gpadN dl D=PD at *
 generalize pad ml=pm at *
 generalize pad dl=pd at *
 obtain ⟨xv,cv,rfl,-,-,-⟩:=hv.src
 obtain ⟨xu,cu,rfl,-,-,-⟩:=hu.src
 obtain ⟨xm,cm,rfl,-,-,-⟩:=hm.src
 obtain ⟨xd,cd,rfl,-,-,-⟩:=hd.src
 generalize w.alloc (.cells (zb 16) 5)=W at *
 clear hv hu hm hd hks hnn hM hD hz0
 go_enter Tryz.func202,Tryz.ntmps202
 go_upto_region 2 with (first
  | rw [hmk]
  | (go_at_call 239;refine cB.mono ?_;clear cB hmk;rintro e w1 ⟨s1,rfl,r1,hb1⟩;(replace b1:=below_next b1 hb1);clear hb1;(have cf1':=cf1 w1 b1);(have hw01:=b1.size);(obtain ⟨g1,k1,hs1,hk1,r1⟩:=r1);subst hs1;(have hw1:g1<w1.heap.size:=block_lt_of_cell (r1 0 (by decide)).1);clear cf1))
 go_upto_region 3 with (first
  | (go_at_call 241;refine cf1'.mono ?_;clear cf1';rintro e w2 ⟨s2,rfl,own2,hb2⟩;(replace r1:=r1.still hb2);(replace b1:=below_next b1 hb2);(have cf2':=cf2 w2 b1);clear cf2)
  | (go_at_call 241;refine cf2'.mono ?_;clear cf2';rintro e w3 ⟨s3,rfl,own3,hb3⟩;(replace r1:=r1.still hb3);(replace own2:=own2.below hb3);(replace b1:=below_next b1 hb3);(obtain ⟨xo3,c3,hs3,hxn3,src3⟩:=own3.srcOf);subst hs3;(have src3':=src3 w3 (Below.refl _ _));(have hz3:w1.heap.size≤w3.heap.size:=Nat.le_trans hb2.size hb3.size);clear own3 src3)
  | (at_builtin;refine wpList_append_bytes rfl (.tmp 24) (.tmp 26) rfl w1.heap.size _ pm PM rfl own2 _ pd c3 PD rfl src3' hxn3 (by omega) hz3 ?_;intro v4 w4 own4 grow4;(have b4:=Own.grown (Below.refl w1.heap.size w3) grow4 own2 (Nat.le_refl _) hz3);clear src3' hxn3 own2 grow4)
  | (go_at_call 242;refine (cl1 _).mono ?_;clear cl1;rintro e w5 ⟨s5,rfl,r5,hb5⟩;(replace r1:=(r1.below b4 hw1).still hb5);(replace own4:=own4.below hb5);(obtain ⟨g5,c5,hs5,src5⟩:=r5.srcOf);subst hs5;(have src5':=src5 w5 (Below.refl _ _));(have hz5:w1.heap.size≤w5.heap.size:=Nat.le_trans (Nat.le_trans hz3 b4.size) hb5.size);(replace b1:=below_next ((b1.trans (b4.mono hw01))) hb5);clear src5 r5)
  | (at_builtin;refine wpList_append_bytes rfl (.tmp 27) (.tmp 30) rfl w1.heap.size _ (pm+pd) (cat pm PM PD) rfl own4 _ 8 c5 (lnN ml) rfl src5' (fun h=>by cases h) (by omega) hz5 ?_;intro v6 w6 own6 grow6;(have b6:=Own.grown (Below.refl w1.heap.size w5) grow6 own4 (Nat.le_refl _) hz5);clear src5' own4 grow6)
  | (go_at_call 242;refine (cl2 _).mono ?_;clear cl2;rintro e w7 ⟨s7,rfl,r7,hb7⟩;(replace r1:=(r1.below b6 hw1).still hb7);(replace own6:=own6.below hb7);(obtain ⟨g7,c7,hs7,src7⟩:=r7.srcOf);subst hs7;(have src7':=src7 w7 (Below.refl _ _));(have hz7:w1.heap.size≤w7.heap.size:=Nat.le_trans (Nat.le_trans hz5 b6.size) hb7.size);(replace b1:=below_next ((b1.trans (b6.mono hw01))) hb7);clear src7 r7)
  | (at_builtin;refine wpList_append_bytes rfl (.tmp 31) (.tmp 34) rfl w1.heap.size _ (pm+pd+8) (cat (pm+pd) (cat pm PM PD) (lnN ml)) rfl own6 _ 8 c7 (lnN dl) rfl src7' (fun h=>by cases h) (by omega) hz7 ?_;intro v8 w8 own8 grow8;(have b8:=Own.grown (Below.refl w1.heap.size w7) grow8 own6 (Nat.le_refl _) hz7);rw [←hau] at own8;(replace r1:=r1.below b8 hw1);(replace b1:=b1.trans (b8.mono hw01));(have cH':=cH _ v8 w8 (rowB r1 (by decide) hk1) ((own8.start (n:=pm+pd+16) (by omega)).bytesOf));clear cH src7' own6 grow8)
  | (go_at_call 240;refine cH'.mono ?_;clear cH';rintro e w9 ⟨s9,rfl,r9,hb9⟩;(replace b1:=below_next b1 hb9)))
 obtain ⟨g9,k9,hs9,hg9,hk9,r9⟩:=r9
 subst hs9
 have cc9:=cc w9 b1
 have g9l:g9<w9.heap.size:=block_lt_of_cell (r9 0 (by decide)).1
 clear cc hb9 hg9 r1 own8 hau hz3 hz5 hz7 hb2 hb3 hb5 hb7 b4 b6 b8
 go_wp2_with (go_at_call 238;refine cc9.mono ?_;clear cc9;rintro e w10 ⟨s10,rfl,⟨gc,kc,hsc,hgc,hkc,rc⟩,hb10⟩;subst hsc)
 have ngc:gc≠g9:=by omega
 have wgc:w.heap.size≤gc:=Nat.le_trans b1.size hgc
 have r9':=r9.still hb10
 have bb:=below_next b1 hb10
 clear r9 b1 hb10 hgc g9l
 go_loopw [14] (fun q wq=>∃ k:Nat,k≤16∧q = .int .i64 k∧RowAt .u8 wq gc 0 16 (pr T C k)∧RowAt .u8 wq g9 0 16 H∧Below w.heap.size w wq) (fun q _=>16 - (intOf q).toNat)
 case atStart=>exact ⟨0,Nat.zero_le _,rfl,rc,r9',bb⟩
 case round =>
  clear rc r9' bb
  obtain ⟨k,hk,rfl,rc,r9,bb⟩:=hrel
  by_cases hlk:k<16
  · obtain ⟨p1,f1⟩:=rc k hlk
    obtain ⟨p2,-⟩:=r9 k hlk
    rw [Nat.zero_add] at p1 f1 p2
    rw [pr_at] at p1
    have hq:=u8_xor_nat (C k) (H k) (hcB k hlk) (hhl k)
    rw [hqe k] at hq
    have hs:=rc.next hlk (v:=(T k:Int)) rfl
    have q1:(0:Int)≤(k:Int)∧(k:Int)<16:=by omega
    have m1:k+1≤16:=by omega
    have n1:¬gc=g9:=ngc
    clear hqe hhl hcB
    go_wp2
    go_region
    go_wp2
    go_roundw
    case rel=>exact ⟨k+1,m1,by go_num,hs.drew,(r9.far (by show gc≠g9;exact ngc) _).drew,(bb.setCell wgc _).drew⟩
    case measure=>simp [intOf];omega
  · obtain rfl:k=16:=by omega
    replace rc:=rc.congr (fun j hj=>pr_full T C hj)
    clear hqe hhl hcB
    go_wp2
    go_ret
    exact ⟨_,rfl,⟨gc,kc,rfl,wgc,hkc,rc⟩,bb⟩
def slN (ks nn:Nat→Nat) (ml:Nat) (M:Nat→Nat) (n:Nat) (X:Nat→Nat):Nat→Nat:=cat n (trN ks nn X) (tgN ks nn ml M n (trN ks nn X))
set_option maxRecDepth 20000 in
set_option maxHeartbeats 4000000 in
theorem rSeal_good (v u m t:Value) (ml n:Nat) (ks nn M X:Nat→Nat) (hml:ml≤65536) (hn:n≤65536) (hks:∀ j,ks j<256) (hnn:∀ j,nn j<256) (hM:∀ j,M j<256) (hX:∀ j,X j<256) (w:World) (hv:BytesIn w v 16 ks) (hu:BytesIn w u 12 nn) (hm:BytesIn w m ml M) (ht:BytesIn w t n X) :
 Calls Tryz.prog 145 #[v,u,m,t] w fun e w'=>∃ s,e = .returned (.tuple #[s,.int .i64 0])∧Own w.heap.size w' s (n+16) (slN ks nn ml M n X)∧Below w.heap.size w w':=by
 have c1:=turned_r v u t n ks nn X (by omega) hks hnn hX w hv hu ht
 have hT:=trN_lt (X:=X) hks hnn hX
 have c2:=fun d W hb hd=>rtag_any v u m d ml n ks nn M (trN ks nn X) (by omega) (by omega) hks hnn hM hT W (hv.keep hb) (hu.keep hb) (hm.keep hb) hd
 have hsl:slN ks nn ml M n X=cat n (trN ks nn X) (tgN ks nn ml M n (trN ks nn X)):=rfl
 rw [hsl]
 generalize tgN ks nn ml M n (trN ks nn X)=G at *
 generalize trN ks nn X=T at *
 obtain ⟨xv,cv,rfl,-,-,-⟩:=hv.src
 obtain ⟨xu,cu,rfl,-,-,-⟩:=hu.src
 obtain ⟨xm,cm,rfl,-,-,-⟩:=hm.src
 obtain ⟨xt,ct,rfl,-,-,-⟩:=ht.src
 have hml':¬(65536:Int)<(ml:Int):=by omega
 have hn':¬(65536:Int)<(n:Int):=by omega
 clear hv hu hm ht hks hnn hM hX hT hsl
 go_enter Tryz.func145,Tryz.ntmps145
 go_wp2_with (first
  | (go_at_call 201;refine c1.mono ?_;clear c1;rintro e w1 ⟨s1,rfl,own1,b1⟩;(have c2':=c2 s1 w1 b1 own1.bytesOf);clear c2)
  | (go_at_call 202;refine c2'.mono ?_;clear c2';rintro e w2 ⟨s2,rfl,⟨g2,k2,hs2,hg2,hk2,r2⟩,hb2⟩;subst hs2;(replace own1:=own1.below hb2);(replace b1:=below_next b1 hb2);(have src2:Src w2 (some ⟨g2,0,none⟩) 16 G := .inr ⟨g2,0,rfl,fun j hj=>(r2 j hj).1⟩);have hz2:=b1.size)
  | (at_builtin;refine wpList_append_bytes rfl (.tmp 31) (.tmp 36) rfl w.heap.size _ n T rfl own1 _ 16 k2 G rfl src2 (fun h=>by cases h) (by omega) hz2 ?_;intro v3 w3 own3 grow3;(have b3:=Own.grown b1 grow3 own1 (Nat.le_refl _) hz2)))
 go_ret2
 exact ⟨v3,rfl,own3,b3⟩
end Go.Proofs.YtibdhadbflfdpaaGreatDoor
namespace Go.Proofs.YtibdhadbflfdpaaGreatDoor
open Go.RowKit
theorem strB16g {X Y:Nat→Nat} (hX:B16 X) (hY:B16 Y) (h:strB 16 X=strB 16 Y):S16 X Y:=fun j hj=>by
 have e:∀ Z:Nat→Nat,B16 Z→strB 16 Z=strB 16 (fun j=>Z j%256):=fun Z hZ=>strB_congr (fun j hj=>(Nat.mod_eq_of_lt (hZ j hj)).symm)
 rw [e X hX,e Y hY,strB_eq (fun _=>Nat.mod_lt _ (by decide)) (fun _=>Nat.mod_lt _ (by decide))] at h
 have h2:=h.2 j hj
 rwa [Nat.mod_eq_of_lt (hX j hj),Nat.mod_eq_of_lt (hY j hj)] at h2
theorem conv16g {W:World} {g:Nat} {X:Nat→Nat} (h:RowAt .u8 W g 0 16 X) (hX:B16 X) {W':World} (hb:Below W.heap.size W W') (c:Nat):(convert 22 9 (.slice (some ⟨g,0,none⟩) 16 c)).run Tryz.prog W' = .ok (.string (strB 16 X)) W':=by
 have e:strB 16 X=strB 16 (fun j=>X j%256):=strB_congr (fun j hj=>(Nat.mod_eq_of_lt (hX j hj)).symm)
 rw [e]
 exact conv_bytes W' g 0 16 c (fun j=>X j%256) (fun j=>Nat.mod_lt _ (by decide)) (fun j hj=>by
  rw [Nat.mod_eq_of_lt (hX j hj)]
  exact ((h.still hb) j hj).1)
end Go.Proofs.YtibdhadbflfdpaaGreatDoor
namespace Go.Proofs.YtibdhadbflfdpaaGreatDoor
open Go.RowKit Go.Shelf
def OnlyN (Q:Exit→Act→World→Prop):Exit→Act→World→Prop
 | .normal,a,w=>Q .normal a w
 | _,_,_=>False
theorem OnlyN.normal {Q:Exit→Act→World→Prop} {a:Act} {w:World} (h:Q .normal a w):OnlyN Q .normal a w:=h
theorem OnlyN.imp {Q:Exit→Act→World→Prop}:∀ (e:Exit) (a:Act) (w:World),OnlyN Q e a w→Q e a w:=fun e a w h=>by
 cases e <;> first | exact h | exact (h:False).elim
theorem OnlyN.stays {Q:Exit→Act→World→Prop}:¬LetsOut (OnlyN Q):=fun ⟨_,_,h⟩=>h
def noDefer (ops:Array Oper):Bool:=ops.toList.all fun o=>match o.op with | .defer _=>false | _=>true
section
variable {P:Program} {md:Region.Mode} {ops:Array Oper} {Q:Exit→Act→World→Prop} {S:World→Prop} {fuel:Nat} {listed:Array Bool} {a:Act} {w:World}
theorem upon_in {l n:Nat} {o:Oper} {K:Act→World→Prop}:∀ {r:Result Next},o.upon P a K Q r→o.uponIn (Fence.wide.inRound l) n P a K Q r
 | .ok (.value _) _,h=>h
 | .ok .skip _,h=>h
 | .ok (.defer _) _,h=>h
 | .ok (.enter _ _) _,h=>⟨(fun hd=>by cases hd),CallsIn.inRound l (callsIn_wide.2 h)⟩
 | .ok (.row _ _) _,h=>⟨(fun hd=>by cases hd),fun c cs _=>let ⟨v,w',r,s⟩:=h c cs;⟨v,w',r,stepsIn_wide.2 s⟩⟩
 | .ok (.round ..) _,h=>(h:False).elim
 | .halt (.panic _) _,h=>h
theorem any_in {l n:Nat} (hd:noDefer ops=true) (hQ:¬LetsOut Q):∀ (fuel:Nat) (listed:Array Bool) (a:Act) (w:World),wpAny P md ops Q fuel listed a w→wpAnyIn (Fence.wide.inRound l) n P md ops Q fuel listed a w
 | 0,_,_,_,h=>h
 | fuel+1,listed,a,w,h=>⟨h.1,fun i hi=>by
  have hi':=h.2 i hi
  unfold wpOp at hi'
  unfold wpOpIn
  split
  · rename_i heq
    rw [heq] at hi'
    exact any_in hd hQ fuel _ a w hi'
  · rename_i o heq
    rw [heq] at hi'
    dsimp only at hi'
    split
    · rename_i hw
      rw [if_pos hw] at hi'
      have h1:=hi'.resolve_right fun h=>hQ h.2
      refine ⟨fun _ _=>trivial,?_⟩
      have hnd:∀ c,o.op ≠ .defer c:=fun c e=>by
       have hm:o∈ops.toList:=by
        rw [←Array.getElem?_toList] at heq
        exact List.mem_of_getElem? heq
       have:=List.all_eq_true.1 hd o hm
       rw [e] at this
       cases this
      rw [Oper.semAt_plain (Fence.wide.inRound l) _ o hnd]
      exact upon_in (Oper.wp_mono (fun a w h=>any_in hd hQ fuel _ a w h) h1)
    · rename_i hw
      rw [if_neg hw] at hi'
      exact ⟨fun _ _=>trivial,any_in hd hQ fuel _ _ w hi'⟩⟩
theorem wpIn_held {l n id:Nat} (hm:P.follows .mixedOrders=true) (hd:noDefer ops=true) (hS:S w.drew) (h:S w.drew→wpAnyH P .any ops (OnlyN Q) S ops.size (Array.replicate ops.size false) a w.drew):(Code.region id ops true).wpIn (Fence.wide.inRound l) n P Q a w :=
 wpIn_mono (wpIn_region_any hm (any_in hd OnlyN.stays _ _ _ _ (wpAny_of_held _ _ _ _ (h hS)))) OnlyN.imp
theorem tlO (i:Nat) {V:World} {oi:Oper} {g off k b p n:Nat} {cs:List Value} (r:RW V g off cs) (hne:g≠b) (hS:Out b p n V w) (ty:Nat) {d:TypeDesc} (hu:P.underlying ty=some d) (hin:(P.info? ty).map (·.size)=some cs.length)
 (h:wpAnyH P md ops Q (fun u=>Out b p n V u) fuel (listed.setIfInBounds i true) (a.put oi.dst (.agg cs.toArray)) w) (hi:ops.toList[i]? = some oi:=by rfl) (ho:oi.op = .load ty (.tmp k):=by rfl)
 (hd:d.isRow=true:=by rfl) (hw:Region.wanted oi (yielded ops a.tmps)=true:=by rfl) (hx:a.eval (.tmp k) = .pointer (some ⟨g,off,none⟩):=by rfl)
 (hQ:∀ c b w,Q (.panic c) (b.put oi.dst (.agg cs.toArray)) w→Q (.panic c) b w:=by exact fun _ _ _ h=>h) (hs:Region.noSelect ops=true:=by kernel_rfl) (hf:Region.free md ops listed i=true:=by kernel_rfl) (hr:(Region.ready md ops listed).contains i=true:=by kernel_rfl):wpAnyH P md ops Q (fun u=>Out b p n V u) (fuel+1) listed a w :=
 tkH i oi _ hS (ldO r hne ty k hu hin hd hw ho hx) h hQ (at_list hi) hs hf hr
theorem lo (i:Nat) {oi:Oper} (ty k:Nat) {g off:Nat} {cs:List Value} {d:TypeDesc} (r:RW w g off cs) (hS:S w) (hu:P.underlying ty=some d) (hin:(P.info? ty).map (·.size)=some cs.length) (h:wpAnyH P md ops Q S fuel (listed.setIfInBounds i true) (a.put oi.dst (.agg cs.toArray)) w)
 (hi:ops.toList[i]? = some oi:=by rfl) (hr:Region.ready md ops listed=[i]:=by kernel_rfl) (hd:d.isRow=true:=by rfl) (ho:oi.op = .load ty (.tmp k):=by rfl) (hx:a.eval (.tmp k) = .pointer (some ⟨g,off,none⟩):=by rfl) (hw:Region.wanted oi (yielded ops a.tmps)=true:=by rfl):wpAnyH P md ops Q S (fuel+1) listed a w :=
 wpAnyH_ready hr (by simp) (aL oi ty k r hS hu hin h AllReadyH.nil hd ho hx (at_list hi) hw)
theorem so (i:Nat) {oi:Oper} (ty x y:Nat) {g off:Nat} {cs:List Value} (ds:List Value) (r:RW w g off cs) (hl:ds.length=cs.length) (hk:S (w.setCells g off ds)) (hin:(P.info? ty).map (·.size)=some ds.toArray.size) (h1:ds.toArray.all (·.oneCell')=true) (h:RW (w.setCells g off ds) g off ds→wpAnyH P md ops Q S fuel (listed.setIfInBounds i true) (a.put oi.dst undef) (w.setCells g off ds))
 (hi:ops.toList[i]? = some oi:=by rfl) (hr:Region.ready md ops listed=[i]:=by kernel_rfl) (ho:oi.op = .store ty (.tmp x) (.tmp y):=by rfl) (hx:a.eval (.tmp x) = .pointer (some ⟨g,off,none⟩):=by rfl) (hy:a.eval (.tmp y) = .agg ds.toArray:=by rfl) (hw:Region.wanted oi (yielded ops a.tmps)=true:=by rfl):wpAnyH P md ops Q S (fuel+1) listed a w :=
 wpAnyH_ready hr (by simp) (aT oi ty x y ds r hl hk hin h1 h AllReadyH.nil ho hx hy (at_list hi) hw)
end
end Go.Proofs.YtibdhadbflfdpaaGreatDoor
