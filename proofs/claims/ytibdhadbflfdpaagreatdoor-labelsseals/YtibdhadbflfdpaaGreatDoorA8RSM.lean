/- What the proof stands on: A8RS, A8RK, A8RC. -/
import Derived.Test.YtibdhadbflfdpaaGreatDoorA8BlcM
namespace Go.Proofs.YtibdhadbflfdpaaGreatDoor
open Go.RowKit
theorem step_append_one {ops:Array Oper} {o:Oper} {a:Act} {w:World} {K:Act→World→Prop} {Q:Exit→Act→World→Prop} {E:Prop} (hgd:o.guard=none) (s x:Operand)
 (ho:o.op = .call { callee := .builtin .append,args:=#[s,x],argTypes:=#[22,22] }) (hty:o.type=22) (base:Nat)
 (v:Value) (n:Nat) (F:Nat→Nat) (y:Int) (hs:a.eval s=v) (hown:Own base w v n F) (g:Nat) (hg:w.heap.size=g) (hx:a.eval x = .slice (some ⟨g,0,none⟩) 1 1) (hF:y=(F n:Int))
 (hl:n+1≤1000000) (hbase:base≤w.heap.size)
 (h:∀ v' w',Own base w' v' (n+1) F→Below base w w'→K (a.put o.dst v') w') :
 if Region.wanted o (yielded ops a.tmps)=true then Oper.wp Tryz.prog o a (w.alloc (.cells #[.int .u8 y] 5)) K Q else E:=by
 have hw:Region.wanted o (yielded ops a.tmps)=true:=by simp [Region.wanted,hgd]
 rw [if_pos hw]
 subst hg
 have hz:base≤(w.alloc (.cells #[.int .u8 y] 5)).heap.size:=by simp only [World.size_alloc];omega
 obtain ⟨v',w',hrun,h1,h2⟩:=run_append_bytes (w.alloc (.cells #[.int .u8 y] 5)) base v n F (hown.alloc _) _ 1 1 _ (src_one w y (F n) hF) (fun h=>by cases h) (by omega) hz
 have h3:Own base w' v' (n+1) F:=h1.congr (fun j hj=>by
  by_cases e:j<n
  · rw [cat_left e]
  · obtain rfl:j=n:=by omega
    unfold cat;rw [if_neg e])
 unfold Oper.wp
 simp [execOp,ho,hty,resolve,invoke,builtin,hs,hx,hrun,Result.andThen]
 exact h v' w' h3 (((Below.refl _ _).alloc hbase _).trans h2)
def RowF (base:Nat) (w:World) (v:Value) (n:Nat) (X:Nat→Nat):Prop:=∃ g cap,v = .slice (some ⟨g,0,none⟩) n cap∧base≤g∧n≤cap∧RowAt .u8 w g 0 n X
theorem RowF.row {base:Nat} {w:World} {v:Value} {n:Nat} {X:Nat→Nat} (h:RowF base w v n X):RowS w v n X:=by
 obtain ⟨g,cap,e,_,hc,hr⟩:=h
 exact ⟨g,cap,e,hc,hr⟩
theorem RowF.mono {base base':Nat} {w:World} {v:Value} {n:Nat} {X:Nat→Nat} (h:RowF base w v n X) (hb:base'≤base):RowF base' w v n X:=by
 obtain ⟨g,cap,e,h1,hc,hr⟩:=h
 exact ⟨g,cap,e,Nat.le_trans hb h1,hc,hr⟩
set_option maxRecDepth 20000 in
set_option maxHeartbeats 4000000 in
theorem add_fresh (v u:Value) (X K:Nat→Nat) (r:Nat) (hr:r≤10) (hX:B16 X) (hK:∀ j,K j<256) (w:World) (hv:BytesIn w v 16 X) (hu:RowS w u 176 K) :
 Calls Tryz.prog 264 #[v,u,.int .i64 r] w fun e w'=>∃ s,e = .returned s∧RowF w.heap.size w' s 16 (addN K r X)∧Below w.heap.size w w':=by
 obtain ⟨bb,ob,cb,rfl,hbb,hcb,hcell⟩:=hv.resolve_left (fun ⟨_,_,h⟩=>by omega)
 obtain ⟨gk,ck,rfl,hck,hrow⟩:=hu
 have hgk:gk<w.heap.size:=block_lt_of_cell (hrow 0 (by decide)).1
 obtain ⟨Z,hZ⟩:∃ Z,Z=addN K r X:=⟨_,rfl⟩
 have hZe:∀ j,X j ^^^ K (16*r+j)=Z j:=fun j=>by rw [hZ];rfl
 rw [←hZ]
 clear hZ hv
 go_enter Tryz.func264,Tryz.ntmps264
 go_wp2
 go_loopw [7,8] (fun o i wr=>∃ k:Nat,k≤16∧i = .int .i64 k∧Own w.heap.size wr o k Z∧Below w.heap.size w wr) (fun _ i _=>16 - (intOf i).toNat)
 case atStart=>exact ⟨0,Nat.zero_le _,rfl,Own.nil _ _ _,Below.refl _ _⟩
 case round =>
  obtain ⟨k,hk,rfl,own,b⟩:=hrel
  by_cases hlt:k<16
  · have r1:wr.cell? ⟨bb,ob+k,none⟩=some (.int .u8 (X k)):=(b.cell (p:=⟨bb,ob+k,none⟩) hbb).trans (hcell k hlt)
    have r2:wr.cell? ⟨gk,16*r+k,none⟩=some (.int .u8 (K (16*r+k))):=(b.cell (p:=⟨gk,16*r+k,none⟩) hgk).trans (by have:=(hrow (16*r+k) (by omega)).1;rwa [Nat.zero_add] at this)
    have q:=u8_xor_nat (X k) (K (16*r+k)) (hX k hlt) (hK _)
    rw [hZe] at q
    have q1:(16*(r:Int)+(k:Int)).toNat=16*r+k:=by omega
    have q2:(0:Int)≤16*(r:Int)+(k:Int)∧16*(r:Int)+(k:Int)<176:=by omega
    have q3:(0:Int)≤(k:Int)∧(k:Int)<16:=by omega
    have e1:IntKind.i64.wrap (16*(r:Int))=16*(r:Int):=by simp only [IntKind.wrap_i64];omega
    have e2:IntKind.i64.wrap (16*(r:Int)+(k:Int))=16*(r:Int)+(k:Int):=by simp only [IntKind.wrap_i64];omega
    have hS:∀ w':World,Below w.heap.size wr w'→∀ b o,b<w.heap.size→w'.cell? ⟨b,o,none⟩=wr.cell? ⟨b,o,none⟩:=fun w' h b o hb=>h.cell (p:=⟨b,o,none⟩) hb
    have hb0:Below w.heap.size wr wr.drew:=(Below.refl _ _).drew
    have own0:Own w.heap.size wr.drew _ k Z:=own.below ((Below.refl _ _).drew)
    have hsz0:w.heap.size≤wr.drew.heap.size:=b.size
    have m1:k+1≤16:=by omega
    clear hcell hrow hX hK hZe own
    generalize K (16*r+k)=y at *
    generalize X k=x at *
    go_wp2
    go_region_held3 (fun w'=>Below w.heap.size wr w') (first | assumption | exact Below.alloc (by assumption) (by assumption) _) (first | (refine step_append_one rfl (.tmp 13) (.tmp 26) rfl rfl w.heap.size _ k Z _ rfl own0 _ rfl rfl rfl (by omega) hsz0 ?_;intro v' w' own1 hbx;have hbn:Below w.heap.size wr w':=hb0.trans hbx))
    clear hS hb0 r1 r2 q q1 q2 q3 e1 e2
    go_wp2
    go_roundw
    case rel=>exact ⟨k+1,m1,by go_num,own1,b.trans hbn⟩
    case measure=>simp [intOf];omega
  · obtain rfl:k=16:=by omega
    obtain ⟨g3,cap3,hv3,hg,hgl,hcap3,hrow3⟩:=own.form.resolve_left (fun h=>by omega)
    subst hv3
    clear hX hK hZe own hcell hrow
    go_wp2
    go_ret
    exact ⟨_,rfl,⟨g3,cap3,rfl,hg,hcap3,hrow3⟩,b⟩
theorem add_any (v u:Value) (X K:Nat→Nat) (r:Nat) (hr:r≤10) (hX:B16 X) (hK:∀ j,K j<256) (w:World) (hv:BytesIn w v 16 X) (hu:RowS w u 176 K) :
 Calls Tryz.prog 264 #[v,u,.int .i64 r] w fun e w'=>∃ s,e = .returned s∧RowS w' s 16 (addN K r X)∧Below w.heap.size w w' :=
 (add_fresh v u X K r hr hX hK w hv hu).mono fun _ _ ⟨s,he,hr,hb⟩=>⟨s,he,hr.row,hb⟩
set_option maxRecDepth 20000 in
set_option maxHeartbeats 4000000 in
theorem rthrough_any (v u:Value) (X S:Nat→Nat) (hX:B16 X) (w:World) (hv:RowS w v 16 X) (hu:RowS w u 256 S) :
 Calls Tryz.prog 266 #[v,u] w fun e w'=>∃ s,e = .returned s∧RowS w' s 16 (thrN S X)∧Below w.heap.size w w':=by
 obtain ⟨bb,cb,rfl,hcb,hrow1⟩:=hv
 obtain ⟨gk,ck,rfl,hck,hrow⟩:=hu
 obtain ⟨Z,hZ⟩:∃ Z,Z=thrN S X:=⟨_,rfl⟩
 have hZe:∀ j,S (X j)=Z j:=fun j=>by rw [hZ];rfl
 rw [←hZ]
 clear hZ
 go_enter Tryz.func266,Tryz.ntmps266
 go_wp2
 go_loopw [5,6] (fun o i wr=>∃ k:Nat,k≤16∧i = .int .i64 k∧Own w.heap.size wr o k Z∧Below w.heap.size w wr) (fun _ i _=>16 - (intOf i).toNat)
 case atStart=>exact ⟨0,Nat.zero_le _,rfl,Own.nil _ _ _,Below.refl _ _⟩
 case round =>
  obtain ⟨k,hk,rfl,own,b⟩:=hrel
  by_cases hlt:k<16
  · obtain ⟨r1,-⟩:=(hrow1.still b) k hlt
    have hxk:=hX k hlt
    obtain ⟨r2,-⟩:=(hrow.still b) (X k) hxk
    rw [Nat.zero_add] at r1 r2
    rw [hZe] at r2
    have q3:(0:Int)≤(k:Int)∧(k:Int)<16:=by omega
    have q4:(0:Int)≤(X k:Int)∧(X k:Int)<256:=by omega
    have hs:=b.size
    have m1:k+1≤16:=by omega
    clear hrow1 hrow hX hZe
    go_wp2_with (at_builtin;refine wpList_append_next rfl (.tmp 11) (.tmp 19) rfl w.heap.size _ k Z _ rfl own rfl rfl (by omega) hs ?_;intro v2 w2 own2 hb2;(have b2:=b.trans hb2);clear own)
    go_roundw
    case rel=>exact ⟨k+1,m1,by go_num,own2,b2⟩
    case measure=>simp [intOf];omega
  · obtain rfl:k=16:=by omega
    obtain ⟨g3,cap3,hv3,hg,hgl,hcap3,hrow3⟩:=own.form.resolve_left (fun h=>by omega)
    subst hv3
    clear hX hZe own hrow hrow1
    go_wp2
    go_ret
    exact ⟨_,rfl,⟨g3,cap3,rfl,hcap3,hrow3⟩,b⟩
set_option maxRecDepth 20000 in
set_option maxHeartbeats 4000000 in
theorem rows1_any (v:Value) (X:Nat→Nat) (w:World) (hv:RowS w v 16 X) :
 Calls Tryz.prog 265 #[v,.int .i64 1] w fun e w'=>∃ s,e = .returned s∧RowS w' s 16 (rowN 1 X)∧Below w.heap.size w w':=by
 obtain ⟨bb,cb,rfl,hcb,hrow⟩:=hv
 have hbb:bb<w.heap.size:=block_lt_of_cell (hrow 0 (by decide)).1
 have hmk:=make_bytes w 16 16 rfl (by decide)
 have hT0:=RowAt.zero w 16 5
 have hb1:Below w.heap.size w (w.alloc (.cells (zb 16) 5)):=(Below.refl _ _).alloc (Nat.le_refl _) _
 obtain ⟨Z,hZ⟩:∃ Z,Z=rowN 1 X:=⟨_,rfl⟩
 have hZe:∀ c r,c<4→r<4→X (4*((c+r)%4)+r)=Z (4*c+r):=fun c r hc hr=>by
  rw [hZ]
  unfold rowN
  rw [show (4*c+r) / 4=c by omega,show (4*c+r)%4=r by omega,Nat.mul_one]
 rw [←hZ]
 replace hrow:=hrow.still hb1
 generalize w.alloc (.cells (zb 16) 5)=U at *
 clear hZ
 go_enter Tryz.func265,Tryz.ntmps265
 go_wp2_with (rw [hmk])
 go_loopw [6] (fun i wr=>∃ c:Nat,c≤4∧i = .int .i64 c∧RowAt .u8 wr w.heap.size 0 16 (pr Z (fun _=>0) (4*c))∧RowAt .u8 wr bb 0 16 X∧Below w.heap.size w wr) (fun i _=>4 - (intOf i).toNat)
 case atStart=>exact ⟨0,Nat.zero_le _,rfl,hT0,hrow,hb1⟩
 case round =>
  clear hT0 hrow hb1 hmk
  obtain ⟨c,hc,rfl,hT,hrow,b⟩:=hrel
  by_cases hlt:c<4
  · have hci:(c:Int)<4:=by omega
    go_wp2
    go_loopw [7] (fun i wq=>∃ r:Nat,r≤4∧i = .int .i64 r∧RowAt .u8 wq w.heap.size 0 16 (pr Z (fun _=>0) (4*c+r))∧RowAt .u8 wq bb 0 16 X∧Below w.heap.size w wq) (fun i _=>4 - (intOf i).toNat)
    case atStart=>exact ⟨0,Nat.zero_le _,rfl,hT,hrow,b⟩
    case round =>
     clear hT hrow b
     obtain ⟨r,hr,rfl,hT,hrow,b⟩:=hrel
     by_cases hlr:r<4
     · obtain ⟨r1,-⟩:=hrow (4*((c+r)%4)+r) (by omega)
       rw [Nat.zero_add,hZe c r hlt hlr] at r1
       obtain ⟨r2,f2⟩:=hT (4*c+r) (by omega)
       rw [Nat.zero_add] at r2 f2
       have hs:=hT.next (k:=4*c+r) (by omega) (v:=(Z (4*c+r):Int)) rfl
       have p1:(4*(c:Int)+(r:Int)).toNat=4*c+r:=by omega
       have p2:(0:Int)≤4*(c:Int)+(r:Int)∧4*(c:Int)+(r:Int)<16:=by omega
       have p0:4*(((c:Int)+(r:Int))%4)+(r:Int)=((4*((c+r)%4)+r:Nat):Int):=by push_cast;simp
       have p3:(4*(((c:Int)+(r:Int))%4)+(r:Int)).toNat=4*((c+r)%4)+r:=by rw [p0,Int.toNat_natCast]
       have p4:(0:Int)≤4*(((c:Int)+(r:Int))%4)+(r:Int)∧4*(((c:Int)+(r:Int))%4)+(r:Int)<16:=by omega
       have m1:r+1≤4:=by omega
       clear hZe p0
       go_wp2
       go_roundw
       case rel=>exact ⟨r+1,m1,by go_num,hs,hrow.far (by show w.heap.size≠bb;omega) _,b.setCell (Nat.le_refl _) _⟩
       case measure=>simp [intOf];omega
     · obtain rfl:r=4:=by omega
       have m1:c+1≤4:=by omega
       clear hZe
       go_wp2
       go_roundw
       case rel=>exact ⟨c+1,m1,by go_num,hT,hrow,b⟩
       case measure=>simp [intOf];omega
  · obtain rfl:c=4:=by omega
    have hT':=hT.congr (fun j hj=>pr_full Z _ hj)
    clear hZe hT
    go_wp2
    go_ret
    exact ⟨_,rfl,⟨w.heap.size,16,rfl,Nat.le_refl _,hT'⟩,b⟩
end Go.Proofs.YtibdhadbflfdpaaGreatDoor
namespace Go.Proofs.YtibdhadbflfdpaaGreatDoor
open Go.RowKit
def kyW (w:Nat→Nat) (n k:Nat):Nat:=if n%4=0 then (if k=0 then boxN (w (4*n - 4+1)) ^^^ rcN (n / 4 - 1) else boxN (w (4*n - 4+(k+1)%4))) else w (4*n - 4+k)
theorem kyT_W (w:Nat→Nat) (n k:Nat):kyT w n k=w (4*n - 16+k) ^^^ kyW w n k:=rfl
theorem kyN_next (key:Nat→Nat) (i k:Nat) (h4:4≤i) (h44:i<44) (hk:k<4):kyN key (4*i - 16+k) ^^^ kyW (kyN key) i k=kyN key (4*i+k):=by rw [kyN_word key i k h4 h44 hk,kyT_W]
theorem kyW_lt {w:Nat→Nat} (hw:∀ j,w j<256) (n k:Nat) (hn:n<44) (hn4:4≤n):kyW w n k<256:=by
 unfold kyW
 split
 · split
   · exact xor_byte (box_all _ (hw _)).2.2.1 (rc_lt _ (by omega))
   · exact (box_all _ (hw _)).2.2.1
 · exact hw _
theorem row_of_own {base:Nat} {w:World} {g cap n:Nat} {X:Nat→Nat} (h:Own base w (.slice (some ⟨g,0,none⟩) n cap) n X):RowAt .u8 w g 0 n X:=by
 rcases h.form with ⟨h,_⟩ | ⟨g',cap',e,_,_,_,hr⟩
 · cases h
 · cases e;exact hr
theorem run_append_both (w:World) (base g cap n:Nat) (F:Nat→Nat) (y:Int) (hF:y=(F n:Int)) (hown:Own base w (.slice (some ⟨g,0,none⟩) n cap) n F) (hl:n+1≤1000000) (hbase:base≤w.heap.size) :
 ∃ g' cap' w',(Builtin.append_ #[22,22] 22 #[.slice (some ⟨g,0,none⟩) n cap,.slice (some ⟨w.heap.size,0,none⟩) 1 1]).run Tryz.prog (w.alloc (.cells #[.int .u8 y] 5)) = .ok (.slice (some ⟨g',0,none⟩) (n+1) cap') w' ∧
  Own base w' (.slice (some ⟨g',0,none⟩) (n+1) cap') (n+1) F∧Below base w w'∧(g'=g∨w.heap.size≤g')∧(∀ b o,b<w.heap.size→b≠g→w'.cell? ⟨b,o,none⟩=w.cell? ⟨b,o,none⟩∧w'.frozen? ⟨b,o,none⟩=w.frozen? ⟨b,o,none⟩)∧∀ q,q<n→w'.cell? ⟨g,q,none⟩=w.cell? ⟨g,q,none⟩:=by
 subst hF
 obtain ⟨i0,hi,hz0,hz1,hz2⟩:=info_parts Tryz.info5
 have hbA:Below w.heap.size w (w.alloc (.cells #[.int .u8 (F n:Int)] 5)):=(Below.refl _ _).alloc (Nat.le_refl _) _
 have hz:base≤(w.alloc (.cells #[.int .u8 (F n:Int)] 5)).heap.size:=Nat.le_trans hbase hbA.size
 have ownA:=hown.below hbA
 have hgl:g<w.heap.size:=by
  rcases hown.form with ⟨h,_⟩ | ⟨g',cap',e,_,h,_,_⟩
  · cases h
  · cases e;exact h
 have hnew:=one_new w (.int .u8 (F n:Int)) 5
 obtain ⟨g',cap',w',hr,h1,h2,h3⟩:=run_append_keep (P:=Tryz.prog) _ 22 22 base 5 i0 (.int .u8 0) 1 Tryz.underlying22 hi hz0 hz1 hz2 rfl g cap n _ ownA ⟨w.heap.size,0,none⟩ 1 (.int .u8 (F n:Int)) hnew rfl (by unfold maxLen;omega) (by omega) hz
 obtain ⟨v2,w2,hr2,_,_,_,h5⟩:=run_append_own_at (P:=Tryz.prog) _ base 22 22 5 i0 (.int .u8 0) 1 1 Tryz.underlying22 hi hz0 hz1 hz2 rfl (by decide) _ n _ ownA ⟨w.heap.size,0,none⟩ 1 1 [.int .u8 (F n:Int)] rfl hnew (one_cell _ _) (by unfold maxLen;omega) (by omega) hz
 rw [hr] at hr2
 cases hr2
 refine ⟨g',cap',w',hr,?_,?_,?_,?_,?_⟩
 · unfold Own;rw [←ints_snoc];exact h1
 · exact (hbA.mono hbase).trans (Own.grown (v := .slice (some ⟨g,0,none⟩) n cap) (Below.refl _ _) h2 ownA (Nat.le_refl _) hz)
 · rcases h5 with h5 | h5
   · exact .inl (by simpa [Value.ownBlock] using h5)
   · refine .inr ?_
     have:g'=(w.alloc (.cells #[.int .u8 (F n:Int)] 5)).heap.size:=by simpa [Value.ownBlock] using h5
     rw [this];exact hbA.size
 · intro b o hb hne
   have hk:=h2.block b (by have:=hbA.size;omega) (by simp;omega)
   exact ⟨(World.cell?_of_block hk).trans (hbA.cell (p:=⟨b,o,none⟩) hb),(World.frozen?_of_block hk).trans (hbA.frozen (p:=⟨b,o,none⟩) hb)⟩
 · intro q hq
   exact (h3 q hq).trans (hbA.cell (p:=⟨g,q,none⟩) hgl)
theorem step_append_both {ops:Array Oper} {o:Oper} {a:Act} {w:World} {K:Act→World→Prop} {Q:Exit→Act→World→Prop} {E:Prop} (hgd:o.guard=none) (s x:Operand)
 (ho:o.op = .call { callee := .builtin .append,args:=#[s,x],argTypes:=#[22,22] }) (hty:o.type=22) (base g cap n:Nat) (F:Nat→Nat) (y:Int) (hs:a.eval s = .slice (some ⟨g,0,none⟩) n cap) (hown:Own base w (.slice (some ⟨g,0,none⟩) n cap) n F) (h:Nat) (hh:w.heap.size=h) (hx:a.eval x = .slice (some ⟨h,0,none⟩) 1 1) (hF:y=(F n:Int))
 (hl:n+1≤1000000) (hbase:base≤w.heap.size)
 (H:∀ g' cap' w',Own base w' (.slice (some ⟨g',0,none⟩) (n+1) cap') (n+1) F→Below base w w'→(g'=g∨w.heap.size≤g')→(∀ b o,b<w.heap.size→b≠g→w'.cell? ⟨b,o,none⟩=w.cell? ⟨b,o,none⟩∧w'.frozen? ⟨b,o,none⟩=w.frozen? ⟨b,o,none⟩)→(∀ q,q<n→w'.cell? ⟨g,q,none⟩=w.cell? ⟨g,q,none⟩)→K (a.put o.dst (.slice (some ⟨g',0,none⟩) (n+1) cap')) w') :
 if Region.wanted o (yielded ops a.tmps)=true then Oper.wp Tryz.prog o a (w.alloc (.cells #[.int .u8 y] 5)) K Q else E:=by
 have hw:Region.wanted o (yielded ops a.tmps)=true:=by simp [Region.wanted,hgd]
 rw [if_pos hw]
 subst hh
 obtain ⟨g',cap',w',hrun,h1,h2,h3,h4,h5⟩:=run_append_both w base g cap n F y hF hown hl hbase
 unfold Oper.wp
 simp [execOp,ho,hty,resolve,invoke,builtin,hs,hx,hrun,Result.andThen]
 exact H g' cap' w' h1 h2 h3 h4 h5
theorem sl44 (q:Nat) (h4:4≤q) (hq:q<44):IntKind.i64.wrap (4*(q:Int))=4*(q:Int)∧IntKind.i64.wrap (4*(q:Int) - 4)=4*(q:Int) - 4∧(4*(q:Int) - 4).toNat=4*q - 4∧(4*(q:Int)).toNat=4*q∧((0:Int)≤4*(q:Int) - 4∧4*(q:Int) - 4≤4*(q:Int))∧4*q - (4*q - 4)=4:=by
 refine ⟨?_,?_,by omega,by omega,by omega,by omega⟩
 all_goals (simp only [IntKind.wrap_i64];omega)
theorem ix44 (q m:Nat) (h4:4≤q) (hq:q<44) (hm:m<4):IntKind.i64.wrap (4*(q:Int))=4*(q:Int)∧IntKind.i64.wrap (4*(q:Int) - 16)=4*(q:Int) - 16∧IntKind.i64.wrap (4*(q:Int) - 16+(m:Int))=4*(q:Int) - 16+(m:Int)∧(4*(q:Int) - 16+(m:Int)).toNat=4*q - 16+m∧(0:Int)≤4*(q:Int) - 16+(m:Int)∧4*(q:Int) - 16+(m:Int)<4*(q:Int)+(m:Int):=by
 refine ⟨?_,?_,?_,by omega,by omega,by omega⟩
 all_goals (simp only [IntKind.wrap_i64];omega)
set_option maxRecDepth 20000 in
set_option maxHeartbeats 8000000 in
theorem rkeys_any (v u:Value) (ks:Nat→Nat) (hks:∀ j,ks j<256) (w:World) (hv:BytesIn w v 16 ks) (hu:RowS w u 256 boxN) :
 Calls Tryz.prog 263 #[v,u] w fun e w'=>∃ s,e = .returned s∧RowS w' s 176 (kyN ks)∧Below w.heap.size w w':=by
 obtain ⟨xk,ck,rfl,hxn,-,hsrc⟩:=hv.src
 obtain ⟨gb,cb,rfl,hcb,hbx⟩:=hu
 have hgb:gb<w.heap.size:=block_lt_of_cell (hbx 0 (by decide)).1
 have src0:=hsrc _ ((Below.refl _ _).alloc (Nat.le_refl _) (.cells #[] 5))
 have hKl:=kyN_lt hks
 have hK0:=kyN_lo ks
 have hKn:=kyN_next ks
 have hWl:=fun n k h1 h2=>kyW_lt hKl n k h1 h2
 have hWd:∀ n k,kyW (kyN ks) n k=if n%4=0 then (if k=0 then boxN (kyN ks (4*n - 4+1)) ^^^ rcN (n / 4 - 1) else boxN (kyN ks (4*n - 4+(k+1)%4))) else kyN ks (4*n - 4+k):=fun _ _=>rfl
 have hr0:rcN 0=1:=rfl
 have hrs:∀ n,gm (rcN n) 2=rcN (n+1):=fun _=>rfl
 have hrl:=rc_lt
 have ct:=fun n (hn:n<10) W=>krtimes_any (rcN n) 2 (rc_lt n hn) (by decide) W
 have hbl:∀ x,x<256→boxN x<256:=fun x hx=>(box_all x hx).2.2.1
 generalize kyW (kyN ks)=Wd at *
 generalize kyN ks=Y at *
 generalize rcN=R at *
 generalize boxN=F at *
 clear hv hsrc
 go_enter Tryz.func263,Tryz.ntmps263
 go_wp2_with (at_builtin;refine wpList_append_empty rfl (.tmp 10) (.tmp 11) rfl w.heap.size ks _ rfl rfl xk 16 ck rfl src0 hxn (by decide) (Nat.le_refl _) ?_;intro v1 w1 own1 hb1;clear src0)
 go_loopw [5,6,7] (fun o c i wr=>∃ q:Nat,4≤q∧q≤44∧c = .int .u8 (R ((q - 1) / 4))∧i = .int .i64 q∧Own w.heap.size wr o (4*q) Y∧Below w.heap.size w wr) (fun _ _ i _=>44 - (intOf i).toNat)
 case atStart=>exact ⟨4,Nat.le_refl _,by decide,by rw [show (4 - 1) / 4=0 from rfl,hr0];rfl,rfl,own1.congr (fun j hj=>(hK0 j hj).symm),hb1⟩
 case round =>
  clear own1 hb1 hK0 hr0
  obtain ⟨q,h4,h44,rfl,rfl,own,b⟩:=hrel
  by_cases hlt:q<44
  · obtain ⟨g,cap,hv,hg,hgl,hcap,hrow⟩:=own.form.resolve_left (fun h=>by omega)
    subst hv
    have hrow':=hrow
    obtain ⟨lo1,lo2,lo3,lo4,lo5,lo6⟩:=sl44 q h4 hlt
    have cap':(4*q:Int)≤cap:=by omega
    have srcT:Src (wr.alloc (.cells #[] 5)) (some ⟨g,4*q - 4,none⟩) 4 (fun j=>Y (4*q - 4+j)) := .inr ⟨g,4*q - 4,rfl,fun j hj=>by
     have:=((hrow.alloc hgl (.cells #[] 5)) (4*q - 4+j) (by omega)).1
     rwa [Nat.zero_add] at this⟩
    go_upto_region 7 with (at_builtin;refine wpList_append_empty rfl (.tmp 17) (.tmp 24) rfl wr.heap.size (fun j=>Y (4*q - 4+j)) _ rfl rfl _ 4 (cap - (4*q - 4)) rfl srcT (fun h=>by cases h) (by decide) (Nat.le_refl _) ?_;intro v2 w2 own2 hb2;clear srcT)
    obtain ⟨gt,cpt,hv2,hgt,hgtl,hct,hrT⟩:=own2.form.resolve_left (fun h=>by omega)
    subst hv2
    have ownW:=own.below hb2
    have bW:=b.trans (hb2.mono b.size)
    have ngW:g≠gt:=by omega
    clear own own2 hrow hrow' lo1 lo2 lo3 lo4 lo5 lo6 cap'
    by_cases hq4:q%4=0
    · have q4i:(q:Int)%4=0:=by omega
      have eR:(q - 1) / 4=q / 4 - 1:=by omega
      have hc9:q / 4 - 1<10:=by omega
      have eR2:q / 4 - 1+1=q / 4:=by omega
      have hw0:=hWd q 0
      have hw1:=hWd q 1
      have hw2:=hWd q 2
      have hw3:=hWd q 3
      rw [if_pos hq4] at hw0 hw1 hw2 hw3
      rw [if_pos rfl] at hw0
      rw [if_neg (by decide)] at hw1 hw2 hw3
      simp only [Nat.reduceAdd,Nat.reduceMod,Nat.add_zero] at hw1 hw2 hw3
      obtain ⟨t0,-⟩:=hrT 0 (by decide)
      obtain ⟨t1,-⟩:=hrT 1 (by decide)
      obtain ⟨t2,-⟩:=hrT 2 (by decide)
      obtain ⟨t3,-⟩:=hrT 3 (by decide)
      simp only [Nat.zero_add,Nat.add_zero] at t0 t1 t2 t3
      have hbx2:=(hbx.still (bW:Below w.heap.size w w2))
      have y0:=hKl (4*q - 4)
      have y1:=hKl (4*q - 4+1)
      have y2:=hKl (4*q - 4+2)
      have y3:=hKl (4*q - 4+3)
      obtain ⟨s0,-⟩:=hbx2 _ y0
      obtain ⟨s1,-⟩:=hbx2 _ y1
      obtain ⟨s2,-⟩:=hbx2 _ y2
      obtain ⟨s3,-⟩:=hbx2 _ y3
      rw [Nat.zero_add] at s0 s1 s2 s3
      have hx:=u8_xor_nat (F (Y (4*q - 4+1))) (R (q / 4 - 1)) (hbl _ y1) (hrl _ hc9)
      rw [←hw0] at hx
      rw [←hw1] at s2
      rw [←hw2] at s3
      rw [←hw3] at s0
      have ct1:=ct (q / 4 - 1) hc9
      rw [hrs,eR2] at ct1
      rw [eR]
      generalize F (Y (4*q - 4+1))=f1 at *
      generalize Y (4*q - 4)=z0 at *
      generalize Y (4*q - 4+1)=z1 at *
      generalize Y (4*q - 4+2)=z2 at *
      generalize Y (4*q - 4+3)=z3 at *
      have i0:(0:Int)≤(z0:Int)∧(z0:Int)<256:=by omega
      have i1:(0:Int)≤(z1:Int)∧(z1:Int)<256:=by omega
      have i2:(0:Int)≤(z2:Int)∧(z2:Int)<256:=by omega
      have i3:(0:Int)≤(z3:Int)∧(z3:Int)<256:=by omega
      clear hw0 hw1 hw2 hw3 hbx2 hWd ct
      go_upto_region 8 with (fail)
      go_cut [8,78] from 13 (fun t z wc=>∃ gn,z=undef∧t = .slice (some ⟨gn,0,none⟩) 4 4∧g≠gn∧RowAt .u8 wc gn 0 4 (Wd q)∧Own w.heap.size wc (.slice (some ⟨g,0,none⟩) (4*q) cap) (4*q) Y∧Below w.heap.size w wc)
      case first =>
       have bU:Below w2.heap.size w2 (w2.alloc (.cells #[.int .u8 (Wd q 0),.int .u8 (Wd q 1),.int .u8 (Wd q 2),.int .u8 (Wd q 3)] 5)).drew:=((Below.refl _ _).alloc (Nat.le_refl _) _).drew
       have rowT:RowAt .u8 (w2.alloc (.cells #[.int .u8 (Wd q 0),.int .u8 (Wd q 1),.int .u8 (Wd q 2),.int .u8 (Wd q 3)] 5)).drew w2.heap.size 0 4 (Wd q):=(RowAt.fresh (fun j hj=>by
        rcases (show j=0∨j=1∨j=2∨j=3 by omega) with rfl | rfl | rfl | rfl <;> rfl)).drew
       have ownT:=ownW.below bU
       have bT:=below_next bW bU
       have ngt:g≠w2.heap.size:=by omega
       have hS:∀ w':World,Below w2.heap.size w2 w'→∀ b o,b<w2.heap.size→w'.cell? ⟨b,o,none⟩=w2.cell? ⟨b,o,none⟩:=fun w' h b o hb=>h.cell (p:=⟨b,o,none⟩) hb
       have hb0:Below w2.heap.size w2 w2.drew:=(Below.refl _ _).drew
       have hbA:∀ ob,Below w2.heap.size w2 (w2.drew.alloc ob):=fun ob=>hb0.alloc (Nat.le_refl _) ob
       have gbl:gb<w2.heap.size:=block_lt_of_cell s0
       clear hKl hKn hWl hrs hrl ct1 hbl hks hxn hcb ngW hrT hbx hb2 hg hgl
       go_region_held3 (fun w'=>Below w2.heap.size w2 w') (first | assumption | exact hbA _) (fail)
       go_wp2
       go_meet
       case rel=>exact ⟨w2.heap.size,rfl,rfl,ngt,rowT,ownT,bT⟩
      case rest =>
      obtain ⟨gn,rfl,rfl,ngn,rowT,ownT,bT⟩:=hcut
      clear ownW bW ngW t0 t1 t2 t3 s0 s1 s2 s3 i0 i1 i2 i3 y0 y1 y2 y3 hx hrT q4i eR eR2 hc9 hb2 hbx hgtl hgt hgl hg
      go_upto_region 10 with (go_at_call 284;refine (ct1 _).mono ?_;clear ct1;rintro e w5 ⟨rfl,hw5⟩;subst hw5)
      go_wp2
      go_loopw [5,9] (fun o i wq=>∃ (m g cap:Nat),m≤4∧i = .int .i64 m∧o = .slice (some ⟨g,0,none⟩) (4*q+m) cap∧g≠gn∧Own w.heap.size wq (.slice (some ⟨g,0,none⟩) (4*q+m) cap) (4*q+m) Y∧RowAt .u8 wq gn 0 4 (Wd q)∧Below w.heap.size w wq) (fun _ i _=>4 - (intOf i).toNat)
      case atStart=>exact ⟨0,g,cap,Nat.zero_le _,rfl,rfl,ngn,ownT,rowT,bT⟩
      case round =>
       clear ngn ownT rowT bT
       obtain ⟨m,g,cap,hm,rfl,rfl,ngn,own,rowT,b⟩:=hrel
       have hrow:=row_of_own own
       by_cases hlm:m<4
       · obtain ⟨r1,-⟩:=hrow (4*q - 16+m) (by omega)
         obtain ⟨r2,-⟩:=rowT m hlm
         rw [Nat.zero_add] at r1 r2
         have hx:=u8_xor_nat (Y (4*q - 16+m)) (Wd q m) (hKl _) (hWl q m hlt h4)
         rw [hKn q m h4 hlt hlm] at hx
         have ngl:gn<wr.heap.size:=block_lt_of_cell r2
         have gl:g<wr.heap.size:=block_lt_of_cell r1
         obtain ⟨e1,e2,e3,e4,e5⟩:=ix44 q m h4 hlt hlm
         have e6:(0:Int)≤(m:Int)∧(m:Int)<4:=by omega
         have own0:Own w.heap.size wr.drew (.slice (some ⟨g,0,none⟩) (4*q+m) cap) (4*q+m) Y:=own.below ((Below.refl _ _).drew)
         have hsz0:w.heap.size≤wr.drew.heap.size:=b.size
         have m1:m+1≤4:=by omega
         obtain ⟨y1,hy1⟩:∃ y,y=Y (4*q - 16+m):=⟨_,rfl⟩
         obtain ⟨y2,hy2⟩:∃ y,y=Wd q m:=⟨_,rfl⟩
         rw [←hy1] at r1 hx
         rw [←hy2] at r2 hx
         have hS0:wr.drew.cell? ⟨g,4*q - 16+m,none⟩=some (.int .u8 y1)∧wr.drew.cell? ⟨gn,m,none⟩=some (.int .u8 y2):=⟨r1,r2⟩
         have hSA:∀ ob:Obj,(wr.drew.alloc ob).cell? ⟨g,4*q - 16+m,none⟩=some (.int .u8 y1)∧(wr.drew.alloc ob).cell? ⟨gn,m,none⟩=some (.int .u8 y2):=fun ob=>by
          have hb:Below wr.drew.heap.size wr.drew (wr.drew.alloc ob):=(Below.refl _ _).alloc (Nat.le_refl _) _
          exact ⟨(hb.cell (p:=⟨g,4*q - 16+m,none⟩) gl).trans r1,(hb.cell (p:=⟨gn,m,none⟩) ngl).trans r2⟩
         clear hy1 hy2 hKl hKn hWl hrs hrl hbl hks hrow own r1 r2 hcb hxn
         have hS1:∀ w':World,(w'.cell? ⟨g,4*q - 16+m,none⟩=some (.int .u8 y1)∧w'.cell? ⟨gn,m,none⟩=some (.int .u8 y2))→w'.cell? ⟨g,4*q - 16+m,none⟩=some (.int .u8 y1):=fun _ h=>h.1
         have hS2:∀ w':World,(w'.cell? ⟨g,4*q - 16+m,none⟩=some (.int .u8 y1)∧w'.cell? ⟨gn,m,none⟩=some (.int .u8 y2))→w'.cell? ⟨gn,m,none⟩=some (.int .u8 y2):=fun _ h=>h.2
         go_wp2
         go_region_held3 (fun w'=>w'.cell? ⟨g,4*q - 16+m,none⟩=some (.int .u8 y1)∧w'.cell? ⟨gn,m,none⟩=some (.int .u8 y2)) (first | assumption | exact hSA _) (first | (refine step_append_both rfl (.tmp 62) (.tmp 76) rfl rfl w.heap.size g cap (4*q+m) Y _ rfl own0 _ rfl rfl rfl (by omega) hsz0 ?_;intro g' cap' w' own1 hbx2 hg' hfar hkeep;(have hSw:w'.cell? ⟨g,4*q - 16+m,none⟩=some (.int .u8 y1)∧w'.cell? ⟨gn,m,none⟩=some (.int .u8 y2):=⟨(hkeep _ (by omega)).trans hS0.1,(hfar _ _ ngl ngn.symm).1.trans hS0.2⟩)))
         have hrT1:RowAt .u8 w' gn 0 4 (Wd q):=fun j hj=>by
          obtain ⟨a1,a2⟩:=rowT j hj
          obtain ⟨c1,c2⟩:=hfar gn (0+j) ngl ngn.symm
          exact ⟨c1.trans a1,c2.trans a2⟩
         have ng':g'≠gn:=by
          rcases hg' with rfl | h
          · exact ngn
          · exact fun e=>Nat.lt_irrefl _ (Nat.lt_of_lt_of_le (e ▸ ngl) h)
         have b':Below w.heap.size w w':=(b.drew).trans hbx2
         clear hS0 hSA hS1 hS2 hx e1 e2 e3 e4 e5 e6 hfar hkeep hg' hbx2 own0 rowT
         go_wp2
         go_roundw
         case rel=>exact ⟨m+1,g',cap',m1,by go_num,rfl,ng',own1,hrT1,b'⟩
         case measure=>simp [intOf];omega
       · obtain rfl:m=4:=by omega
         have m1:q+1≤44:=by omega
         have m2:4≤q+1:=by omega
         clear hKl hKn hWl hrs hrl hbl hks hxn hrow rowT
         go_wp2
         go_roundw
         case rel=>exact ⟨q+1,m2,m1,rfl,by go_num,own.start (by omega),b⟩
         case measure=>simp [intOf];omega
    · have q4i:((q:Int)%4 == 0)=false:=beq_false_of_ne (by omega)
      have eR:(q - 1) / 4=q / 4:=by omega
      have rowT:RowAt .u8 w2 gt 0 4 (Wd q):=hrT.congr (fun j _=>by rw [hWd,if_neg hq4])
      have ownT:=ownW
      have bT:=bW
      have ngt:=ngW
      rw [eR]
      clear ownW bW ngW hrT eR hb2 hbx hgtl hgt hgl hg
      go_upto_region 10 with (fail)
      go_wp2
      go_loopw [5,9] (fun o i wq=>∃ (m g cap:Nat),m≤4∧i = .int .i64 m∧o = .slice (some ⟨g,0,none⟩) (4*q+m) cap∧g≠gt∧Own w.heap.size wq (.slice (some ⟨g,0,none⟩) (4*q+m) cap) (4*q+m) Y∧RowAt .u8 wq gt 0 4 (Wd q)∧Below w.heap.size w wq) (fun _ i _=>4 - (intOf i).toNat)
      case atStart=>exact ⟨0,g,cap,Nat.zero_le _,rfl,rfl,ngt,ownT,rowT,bT⟩
      case round =>
       clear ngt ownT rowT bT
       obtain ⟨m,g,cap,hm,rfl,rfl,ngt,own,rowT,b⟩:=hrel
       have hrow:=row_of_own own
       by_cases hlm:m<4
       · obtain ⟨r1,-⟩:=hrow (4*q - 16+m) (by omega)
         obtain ⟨r2,-⟩:=rowT m hlm
         rw [Nat.zero_add] at r1 r2
         have hx:=u8_xor_nat (Y (4*q - 16+m)) (Wd q m) (hKl _) (hWl q m hlt h4)
         rw [hKn q m h4 hlt hlm] at hx
         have ngl:gt<wr.heap.size:=block_lt_of_cell r2
         have gl:g<wr.heap.size:=block_lt_of_cell r1
         obtain ⟨e1,e2,e3,e4,e5⟩:=ix44 q m h4 hlt hlm
         have e6:(0:Int)≤(m:Int)∧(m:Int)<4:=by omega
         have own0:Own w.heap.size wr.drew (.slice (some ⟨g,0,none⟩) (4*q+m) cap) (4*q+m) Y:=own.below ((Below.refl _ _).drew)
         have hsz0:w.heap.size≤wr.drew.heap.size:=b.size
         have m1:m+1≤4:=by omega
         obtain ⟨y1,hy1⟩:∃ y,y=Y (4*q - 16+m):=⟨_,rfl⟩
         obtain ⟨y2,hy2⟩:∃ y,y=Wd q m:=⟨_,rfl⟩
         rw [←hy1] at r1 hx
         rw [←hy2] at r2 hx
         have hS0:wr.drew.cell? ⟨g,4*q - 16+m,none⟩=some (.int .u8 y1)∧wr.drew.cell? ⟨gt,m,none⟩=some (.int .u8 y2):=⟨r1,r2⟩
         have hSA:∀ ob:Obj,(wr.drew.alloc ob).cell? ⟨g,4*q - 16+m,none⟩=some (.int .u8 y1)∧(wr.drew.alloc ob).cell? ⟨gt,m,none⟩=some (.int .u8 y2):=fun ob=>by
          have hb:Below wr.drew.heap.size wr.drew (wr.drew.alloc ob):=(Below.refl _ _).alloc (Nat.le_refl _) _
          exact ⟨(hb.cell (p:=⟨g,4*q - 16+m,none⟩) gl).trans r1,(hb.cell (p:=⟨gt,m,none⟩) ngl).trans r2⟩
         clear hy1 hy2 hKl hKn hWl hWd hrs hrl ct hbl hks hrow own r1 r2 hcb hxn
         have hS1:∀ w':World,(w'.cell? ⟨g,4*q - 16+m,none⟩=some (.int .u8 y1)∧w'.cell? ⟨gt,m,none⟩=some (.int .u8 y2))→w'.cell? ⟨g,4*q - 16+m,none⟩=some (.int .u8 y1):=fun _ h=>h.1
         have hS2:∀ w':World,(w'.cell? ⟨g,4*q - 16+m,none⟩=some (.int .u8 y1)∧w'.cell? ⟨gt,m,none⟩=some (.int .u8 y2))→w'.cell? ⟨gt,m,none⟩=some (.int .u8 y2):=fun _ h=>h.2
         go_wp2
         go_region_held3 (fun w'=>w'.cell? ⟨g,4*q - 16+m,none⟩=some (.int .u8 y1)∧w'.cell? ⟨gt,m,none⟩=some (.int .u8 y2)) (first | assumption | exact hSA _) (first | (refine step_append_both rfl (.tmp 62) (.tmp 76) rfl rfl w.heap.size g cap (4*q+m) Y _ rfl own0 _ rfl rfl rfl (by omega) hsz0 ?_;intro g' cap' w' own1 hbx2 hg' hfar hkeep;(have hSw:w'.cell? ⟨g,4*q - 16+m,none⟩=some (.int .u8 y1)∧w'.cell? ⟨gt,m,none⟩=some (.int .u8 y2):=⟨(hkeep _ (by omega)).trans hS0.1,(hfar _ _ ngl ngt.symm).1.trans hS0.2⟩)))
         have hrT1:RowAt .u8 w' gt 0 4 (Wd q):=fun j hj=>by
          obtain ⟨a1,a2⟩:=rowT j hj
          obtain ⟨c1,c2⟩:=hfar gt (0+j) ngl ngt.symm
          exact ⟨c1.trans a1,c2.trans a2⟩
         have ng':g'≠gt:=by
          rcases hg' with rfl | h
          · exact ngt
          · exact fun e=>Nat.lt_irrefl _ (Nat.lt_of_lt_of_le (e ▸ ngl) h)
         have b':Below w.heap.size w w':=(b.drew).trans hbx2
         clear hS0 hSA hS1 hS2 hx e1 e2 e3 e4 e5 e6 hfar hkeep hg' hbx2 own0 rowT
         go_wp2
         go_roundw
         case rel=>exact ⟨m+1,g',cap',m1,by go_num,rfl,ng',own1,hrT1,b'⟩
         case measure=>simp [intOf];omega
       · obtain rfl:m=4:=by omega
         have m1:q+1≤44:=by omega
         have m2:4≤q+1:=by omega
         clear hKl hKn hWl hWd hrs hrl ct hbl hks hxn hrow rowT
         go_wp2
         go_roundw
         case rel=>exact ⟨q+1,m2,m1,rfl,by go_num,own.start (by omega),b⟩
         case measure=>simp [intOf];omega
  · obtain rfl:q=44:=by omega
    obtain ⟨g,cap,hv,hg,hgl,hcap,hrow⟩:=(own.start (n:=176) rfl).form.resolve_left (fun h=>by omega)
    subst hv
    clear hKl hKn hWl hWd hrs hrl ct hbl hks hbx own hxn
    go_wp2
    go_ret
    exact ⟨_,rfl,⟨g,cap,rfl,hcap,hrow⟩,b⟩
end Go.Proofs.YtibdhadbflfdpaaGreatDoor
namespace Go.Proofs.YtibdhadbflfdpaaGreatDoor
open Go.RowKit
def aC (M X:Nat→Nat) (c r:Nat):Nat→Nat
 | 0=>0
 | k+1=>aC M X c r k ^^^ gm (M ((k+4 - r)%4)) (X (4*c+k))
theorem aC_four (M X:Nat→Nat) (c r:Nat) (hr:r<4):aC M X c r 4=colN M X (4*c+r):=by
 unfold colN col1
 rw [show (4*c+r) / 4*4=4*c by omega,show (4*c+r)%4=r by omega]
 show (((0 ^^^ _) ^^^ _) ^^^ _) ^^^ _=_
 rw [Nat.zero_xor]
 rfl
theorem aC_lt {M X:Nat→Nat} (hM:∀ j,j<4→M j<256) (c r:Nat):∀ k,aC M X c r k<256
 | 0=>(by decide:0<256)
 | k+1=>xor_byte (aC_lt hM c r k) (gm_lt _ _ (hM _ (by omega)))
theorem i_mod (c k r:Nat) (hr:r<4) (hk:k<4) (hc:c<4):(((k:Int) - (r:Int))%4=(((k+4 - r)%4:Nat):Int)∧((k:Int) - (r:Int)+4).tmod 4=(((k+4 - r)%4:Nat):Int))∧(IntKind.i64.wrap (4*(c:Int))=4*(c:Int)∧IntKind.i64.wrap (4*(c:Int)+(r:Int))=4*(c:Int)+(r:Int)∧IntKind.i64.wrap (4*(c:Int)+(k:Int))=4*(c:Int)+(k:Int))∧IntKind.i64.wrap ((k:Int) - (r:Int))=(k:Int) - (r:Int)∧IntKind.i64.wrap ((k:Int) - (r:Int)+4)=(k:Int) - (r:Int)+4:=by
 refine ⟨⟨by omega,?_⟩,⟨?_,?_,?_⟩,?_,?_⟩
 · rw [Int.tmod_eq_emod_of_nonneg (by omega)];omega
 all_goals (simp only [IntKind.wrap_i64];omega)
set_option maxRecDepth 20000 in
set_option maxHeartbeats 8000000 in
theorem columns_any (v u:Value) (X M:Nat→Nat) (hX:B16 X) (hM:∀ j,j<4→M j<256) (w:World) (hv:RowS w v 16 X) (hu:RowS w u 4 M) :
 Calls Tryz.prog 267 #[v,u] w fun e w'=>∃ s,e = .returned s∧RowS w' s 16 (colN M X)∧Below w.heap.size w w':=by
 obtain ⟨bb,cb,rfl,hcb,hrow⟩:=hv
 obtain ⟨gm',cm,rfl,hcm,hrm⟩:=hu
 have hbb:bb<w.heap.size:=block_lt_of_cell (hrow 0 (by decide)).1
 have hgm:gm'<w.heap.size:=block_lt_of_cell (hrm 0 (by decide)).1
 have hmk:=make_bytes w 16 16 rfl (by decide)
 have hT0:=RowAt.zero w 16 5
 have hb1:Below w.heap.size w (w.alloc (.cells (zb 16) 5)):=(Below.refl _ _).alloc (Nat.le_refl _) _
 obtain ⟨Z,hZ⟩:∃ Z,Z=colN M X:=⟨_,rfl⟩
 obtain ⟨A,hA⟩:∃ A,A=aC M X:=⟨_,rfl⟩
 have hA4:∀ c r,r<4→A c r 4=Z (4*c+r):=fun c r hr=>by rw [hA,hZ];exact aC_four M X c r hr
 have hAl:∀ c r k,A c r k<256:=fun c r k=>by rw [hA];exact aC_lt hM c r k
 have hA0:∀ c r,A c r 0=0:=fun c r=>by rw [hA];rfl
 have hAs:∀ c r k,A c r k ^^^ gm (M ((k+4 - r)%4)) (X (4*c+k))=A c r (k+1):=fun c r k=>by rw [hA];rfl
 rw [←hZ]
 replace hrow:=hrow.still hb1
 replace hrm:=hrm.still hb1
 generalize w.alloc (.cells (zb 16) 5)=U at *
 clear hZ hA
 go_enter Tryz.func267,Tryz.ntmps267
 go_wp2_with (rw [hmk])
 go_loopw [6] (fun i wr=>∃ c:Nat,c≤4∧i = .int .i64 c∧RowAt .u8 wr w.heap.size 0 16 (pr Z (fun _=>0) (4*c))∧RowAt .u8 wr bb 0 16 X∧RowAt .u8 wr gm' 0 4 M∧Below w.heap.size w wr) (fun i _=>4 - (intOf i).toNat)
 case atStart=>exact ⟨0,Nat.zero_le _,rfl,hT0,hrow,hrm,hb1⟩
 case round =>
  clear hT0 hrow hb1 hmk hrm
  obtain ⟨c,hc,rfl,hT,hrow,hrm,b⟩:=hrel
  by_cases hlt:c<4
  · have hci:(c:Int)<4:=by omega
    go_wp2
    go_loopw [7] (fun i wq=>∃ r:Nat,r≤4∧i = .int .i64 r∧RowAt .u8 wq w.heap.size 0 16 (pr Z (fun _=>0) (4*c+r))∧RowAt .u8 wq bb 0 16 X∧RowAt .u8 wq gm' 0 4 M∧Below w.heap.size w wq) (fun i _=>4 - (intOf i).toNat)
    case atStart=>exact ⟨0,Nat.zero_le _,rfl,hT,hrow,hrm,b⟩
    case round =>
     clear hT hrow b hrm
     obtain ⟨r,hr,rfl,hT,hrow,hrm,b⟩:=hrel
     by_cases hlr:r<4
     · have hri:(r:Int)<4:=by omega
       have hTu:RowAt .u8 wr w.heap.size 0 16 (upd (pr Z (fun _=>0) (4*c+r)) (4*c+r) (A c r 0)):=hT.congr (fun j _=>by
        unfold upd
        by_cases e:j=4*c+r
        · rw [if_pos e,hA0,e,pr_at]
        · rw [if_neg e])
       clear hT
       go_wp2
       go_loopw [8] (fun i wq=>∃ k:Nat,k≤4∧i = .int .i64 k∧RowAt .u8 wq w.heap.size 0 16 (upd (pr Z (fun _=>0) (4*c+r)) (4*c+r) (A c r k))∧RowAt .u8 wq bb 0 16 X∧RowAt .u8 wq gm' 0 4 M∧Below w.heap.size w wq) (fun i _=>4 - (intOf i).toNat)
       case atStart=>exact ⟨0,Nat.zero_le _,rfl,hTu,hrow,hrm,b⟩
       case round =>
        clear hTu hrow b hrm
        obtain ⟨k,hk,rfl,hT,hrow,hrm,b⟩:=hrel
        by_cases hlk:k<4
        · obtain ⟨r1,f1⟩:=hT (4*c+r) (by omega)
          obtain ⟨r2,-⟩:=hrm ((k+4 - r)%4) (by omega)
          obtain ⟨r3,-⟩:=hrow (4*c+k) (by omega)
          rw [Nat.zero_add] at r1 f1 r2 r3
          rw [show upd (pr Z (fun _=>0) (4*c+r)) (4*c+r) (A c r k) (4*c+r)=A c r k from if_pos rfl] at r1
          have hm:=hM ((k+4 - r)%4) (by omega)
          have hx:=hX (4*c+k) (by omega)
          have ct:=krtimes_any (M ((k+4 - r)%4)) (X (4*c+k)) hm hx
          have hq:=u8_xor_nat (A c r k) (gm (M ((k+4 - r)%4)) (X (4*c+k))) (hAl c r k) (gm_lt _ _ hm)
          rw [hAs] at hq
          have hs:=hT.set (i:=4*c+r) (by omega) (v:=(A c r (k+1):Int)) (u:=A c r (k+1)) rfl
          rw [Nat.zero_add] at hs
          replace hs:RowAt .u8 (wr.setCell ⟨w.heap.size,4*c+r,none⟩ (.int .u8 (A c r (k+1):Int))) w.heap.size 0 16 (upd (pr Z (fun _=>0) (4*c+r)) (4*c+r) (A c r (k+1))):=hs.congr (fun j _=>by
           unfold upd
           by_cases e:j=4*c+r
           · rw [if_pos e,if_pos e]
           · rw [if_neg e,if_neg e,if_neg e])
          obtain ⟨⟨p0,p6⟩,⟨e1,e2,e3⟩,e4,e5⟩:=i_mod c k r hlr hlk hlt
          have p1:(4*(c:Int)+(r:Int)).toNat=4*c+r:=by omega
          have p2:(0:Int)≤4*(c:Int)+(r:Int)∧4*(c:Int)+(r:Int)<16:=by omega
          have p3:(4*(c:Int)+(k:Int)).toNat=4*c+k:=by omega
          have p4:(0:Int)≤4*(c:Int)+(k:Int)∧4*(c:Int)+(k:Int)<16:=by omega
          have p5:(0:Int)≤(((k+4 - r)%4:Nat):Int)∧(((k+4 - r)%4:Nat):Int)<4:=by omega
          have m1:k+1≤4:=by omega
          have n1:¬w.heap.size=bb:=by omega
          have n2:¬w.heap.size=gm':=by omega
          generalize (k+4 - r)%4=q at *
          generalize gm (M q) (X (4*c+k))=T at *
          generalize M q=mq at *
          generalize X (4*c+k)=xk at *
          obtain ⟨A1,hA1⟩:∃ A1,A1=A c r (k+1):=⟨_,rfl⟩
          rw [←hA1] at hq
          have HA1:=Hid.mk' hA1
          have Hs:=Hid.mk' hs
          clear hA1 hs
          generalize A c r k=A0 at *
          clear hA4 hAl hA0 hAs hX hM hT hm hx
          go_wp2
          go_region_with (go_at_call 284;refine (ct _).mono ?_;rintro e w1 ⟨rfl,hw1⟩;subst hw1)
          all_goals
           clear ct hq r1 f1 r2 r3 p0 p1 p2 p3 p4 p5 p6 e1 e2 e3 e4 e5
           go_wp2
           go_roundw
           case rel =>
            have eA:=HA1.out
            subst eA
            exact ⟨k+1,m1,by go_num,Hs.out.drew,(hrow.far (by show w.heap.size≠bb;omega) _).drew,(hrm.far (by show w.heap.size≠gm';omega) _).drew,(b.setCell (Nat.le_refl _) _).drew⟩
           case measure=>simp [intOf];omega
        · obtain rfl:k=4:=by omega
          have hT':RowAt .u8 wr w.heap.size 0 16 (pr Z (fun _=>0) (4*c+(r+1))):=hT.congr (fun j _=>by
           rw [hA4 c r hlr]
           exact pr_step Z _ (4*c+r) j)
          have m1:r+1≤4:=by omega
          clear hA4 hAl hA0 hAs hX hM hT
          go_wp2
          go_roundw
          case rel=>exact ⟨r+1,m1,by go_num,hT',hrow,hrm,b⟩
          case measure=>simp [intOf];omega
     · obtain rfl:r=4:=by omega
       have m1:c+1≤4:=by omega
       clear hA4 hAl hA0 hAs hX hM
       go_wp2
       go_roundw
       case rel=>exact ⟨c+1,m1,by go_num,hT,hrow,hrm,b⟩
       case measure=>simp [intOf];omega
  · obtain rfl:c=4:=by omega
    have hT':=hT.congr (fun j hj=>pr_full Z _ hj)
    clear hA4 hAl hA0 hAs hX hM hT
    go_wp2
    go_ret
    exact ⟨_,rfl,⟨w.heap.size,16,rfl,Nat.le_refl _,hT'⟩,b⟩
end Go.Proofs.YtibdhadbflfdpaaGreatDoor
