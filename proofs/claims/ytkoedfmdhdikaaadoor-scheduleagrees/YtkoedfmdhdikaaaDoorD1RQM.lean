/- What the proof stands on: D1RQ, D1CC, D1CG, V6D, V6O, ZFl. -/
import Derived.Test.YtkoedfmdhdikaaaDoorBaseM
import Derived.Test.YtkoedfmdhdikaaaDoorD1CE5M
import Derived.Test.YtkoedfmdhdikaaaDoorQAppM
import Derived.Test.YtkoedfmdhdikaaaDoorRFnM
import Derived.Test.YtkoedfmdhdikaaaDoorV6AM
namespace Go.Proofs.YtkoedfmdhdikaaaDoor
open Go.RowKit
theorem RW.put {w:World} {g:Nat} {vs:List Value} (r:RW w g 0 vs) (i:Nat) (hi:i<vs.length) (y:Value):RW (w.setCell ⟨g,i,none⟩ y) g 0 (vs.set i y):=by
 have c:w.cell? ⟨g,i,none⟩=some vs[i]:=by
  have:=r.range i vs[i] (List.getElem?_eq_getElem hi)
  rwa [Nat.zero_add] at this
 refine ⟨fun j v hv => ?_,fun j hj => ?_,by rw [World.size_setCell];exact r.lt⟩
 · by_cases e:j=i
   · subst e
     rw [List.getElem?_set_self hi] at hv
     cases hv
     rw [Nat.zero_add]
     exact World.cell?_setCell_same _ _ _ c
   · have hne:(⟨g,i,none⟩:Addr)≠⟨g,0+j,none⟩:=fun e'=>by injection e';omega
     rw [World.cell?_setCell_other _ _ _ _ hne]
     refine r.range j v ?_
     rw [List.getElem?_set_ne (fun e'=>e e'.symm)] at hv
     exact hv
 · rw [List.length_set] at hj
   rw [World.frozen?_setCell]
   refine ⟨?_,(r.there j hj).2⟩
   by_cases e:j=i
   · subst e
     rw [Nat.zero_add,World.cell?_setCell_same _ _ _ c];rfl
   · have hne:(⟨g,i,none⟩:Addr)≠⟨g,0+j,none⟩:=fun e'=>by injection e';omega
     rw [World.cell?_setCell_other _ _ _ _ hne]
     exact (r.there j hj).1
end Go.Proofs.YtkoedfmdhdikaaaDoor
namespace Go.Proofs.YtkoedfmdhdikaaaDoor
open Go.RowKit
def BI (lo hi:Nat) (w:World) (v:Value) (n:Nat) (B:Nat→Nat):Prop:=(∃ xo,v = .slice xo 0 0∧n=0)∨∃ bb ob cap,v = .slice (some ⟨bb,ob,none⟩) n cap∧(lo≤bb∧bb<hi)∧n≤cap∧∀ j,j<n→w.cell? ⟨bb,ob+j,none⟩=some (.int .u8 (B j))
theorem BI.of {lo hi:Nat} {w:World} {v:Value} {n:Nat} {B:Nat→Nat} (h:BI lo hi w v n B) (hh:hi≤w.heap.size):BytesIn w v n B:=by
 rcases h with h | ⟨bb,ob,cap,e,hb,hc,hl⟩
 · exact .inl h
 · exact .inr ⟨bb,ob,cap,e,Nat.lt_of_lt_of_le hb.2 hh,hc,hl⟩
theorem BI.all {w:World} {v:Value} {n:Nat} {B:Nat→Nat} (h:BytesIn w v n B):BI 0 w.heap.size w v n B:=by
 rcases h with h | ⟨bb,ob,cap,e,hb,hc,hl⟩
 · exact .inl h
 · exact .inr ⟨bb,ob,cap,e,⟨Nat.zero_le _,hb⟩,hc,hl⟩
theorem BI.wide {lo hi lo' hi':Nat} {w:World} {v:Value} {n:Nat} {B:Nat→Nat} (h:BI lo hi w v n B) (h1:lo'≤lo) (h2:hi≤hi'):BI lo' hi' w v n B:=by
 rcases h with h | ⟨bb,ob,cap,e,hb,hc,hl⟩
 · exact .inl h
 · exact .inr ⟨bb,ob,cap,e,⟨by omega,by omega⟩,hc,hl⟩
theorem BI.cong {lo hi:Nat} {w:World} {v:Value} {n:Nat} {B C:Nat→Nat} (h:BI lo hi w v n B) (e:∀ j,j<n→B j=C j):BI lo hi w v n C:=by
 rcases h with h | ⟨bb,ob,cap,e',hb,hc,hl⟩
 · exact .inl h
 · exact .inr ⟨bb,ob,cap,e',hb,hc,fun j hj=>by rw [hl j hj,e j hj]⟩
theorem BI.same {lo hi:Nat} {w w':World} {v:Value} {n:Nat} {B:Nat→Nat} (h:BI lo hi w v n B) (e:∀ b o z,lo≤b→b<hi→w.cell? ⟨b,o,none⟩=some (.int .u8 z)→w'.cell? ⟨b,o,none⟩=some (.int .u8 z)):BI lo hi w' v n B:=by
 rcases h with h | ⟨bb,ob,cap,e',hb,hc,hl⟩
 · exact .inl h
 · exact .inr ⟨bb,ob,cap,e',hb,hc,fun j hj=>e _ _ _ hb.1 hb.2 (hl j hj)⟩
theorem BI.below {lo hi M:Nat} {w w':World} {v:Value} {n:Nat} {B:Nat→Nat} (h:BI lo hi w v n B) (hb:Below M w w') (hM:hi≤M):BI lo hi w' v n B :=
 h.same fun b o _ _ h2 hc=>(hb.cell (p:=⟨b,o,none⟩) (Nat.lt_of_lt_of_le h2 hM)).trans hc
theorem BI.put {lo hi:Nat} {w:World} {v:Value} {n:Nat} {B:Nat→Nat} (h:BI lo hi w v n B) {g o:Nat} {u:Value} (hc:w.cell? ⟨g,o,none⟩=some u) (hu:∀ z,u ≠ .int .u8 z) (y:Value):BI lo hi (w.setCell ⟨g,o,none⟩ y) v n B:=by
 refine h.same fun b p z _ _ hz => ?_
 by_cases e:(⟨b,p,none⟩:Addr)=⟨g,o,none⟩
 · rw [e,hc] at hz
   exact absurd (Option.some.inj hz) (hu z)
 · exact (World.cell?_setCell_other _ _ _ _ (fun h=>e h.symm)).trans hz
end Go.Proofs.YtkoedfmdhdikaaaDoor
namespace Go.Proofs.YtkoedfmdhdikaaaDoor
open Go.RowKit
def RdC (lo hi:Nat) (w:World) (g L:Nat) (B:Nat→Nat) (r:Rd):Prop:=∃ v,RW w g 0 [v,.int .i64 r.e,.bool true]∧BI lo hi w v (L - r.at_) (fun j=>B (r.at_+j))∧r.at_≤L∧(lo≤g∧g<hi)∧hi≤w.heap.size
theorem RdC.keep {lo hi:Nat} {w w':World} {g L:Nat} {B:Nat→Nat} {r:Rd} (h:RdC lo hi w g L B r) (hb:Below hi w w'):RdC lo hi w' g L B r:=by
 obtain ⟨v,rw_,hv,ha,hg,hh⟩:=h
 exact ⟨v,rw_.below hb hg.2,hv.below hb (Nat.le_refl _),ha,hg,Nat.le_trans hh hb.size⟩
theorem RdC.still {lo hi:Nat} {w w':World} {g L:Nat} {B:Nat→Nat} {r:Rd} (h:RdC lo hi w g L B r) (hb:Below w.heap.size w w'):RdC lo hi w' g L B r :=
 h.keep (hb.mono h.choose_spec.2.2.2.2)
theorem RdC.lt {lo hi:Nat} {w:World} {g L:Nat} {B:Nat→Nat} {r:Rd} (h:RdC lo hi w g L B r):g<w.heap.size:=by
 obtain ⟨_,r,_⟩:=h
 exact r.lt
theorem RdC.cells {lo hi:Nat} {w:World} {g L:Nat} {B:Nat→Nat} {r:Rd} (h:RdC lo hi w g L B r):∃ v,(w.cell? ⟨g,0,none⟩=some v∧w.frozen? ⟨g,0,none⟩=false)∧(w.cell? ⟨g,1,none⟩=some (.int .i64 r.e)∧w.frozen? ⟨g,1,none⟩=false)∧w.cell? ⟨g,2,none⟩=some (.bool true)∧BI lo hi w v (L - r.at_) (fun j=>B (r.at_+j)):=by
 obtain ⟨v,rr,hv,ha,hg,hh⟩:=h
 exact ⟨v,⟨rr.range 0 _ rfl,(rr.there 0 (by simp)).2⟩,⟨rr.range 1 _ rfl,(rr.there 1 (by simp)).2⟩,rr.range 2 _ rfl,hv⟩
theorem wpList_eqnil0 {ops:Array Oper} {rest:List Oper} {op:Oper} {a:Act} {w:World} {Q:Exit→Act→World→Prop} (hgd:op.guard=none) (x y:Operand) (t2:TypeId) (ho:op.op = .binOp .eql 24 x y t2) (l c:Nat)
 (hx:a.eval x = .slice none l c) (hy:a.eval y = .slice none 0 0) (h:wpList Tryd.prog ops Q rest (a.put op.dst (.bool true)) w):wpList Tryd.prog ops Q (op :: rest) a w :=
 wpList_plain hgd fun K hK=>by
  unfold Oper.wp execOp
  simp only [ho,hx,hy]
  have e:(eqGuard .eql 24 x y (.slice none l c) (.slice none 0 0)).run Tryd.prog w = .ok () w:=by
   simp [eqGuard]
  rw [Sem.run_bind,Sem.run_bind,e]
  simp only [Result.andThen_ok]
  rw [run_eql_slice_nil w 24 5 none l c Tryd.underlying24]
  exact hK _ _ h
end Go.Proofs.YtkoedfmdhdikaaaDoor
namespace Go.Proofs.YtkoedfmdhdikaaaDoor
open Go.RowKit
def labS:Nat→List Nat
 | 0=>[115,101,110,100,101,114,32,100,97,116,97]
 | 1=>[101,110,99,114,121,112,116,105,111,110]
 | 2=>[101,120,112,111,114,116,101,114]
 | 3=>[101,120,116,101,114,110,97,108]
 | 4=>[99,111,110,102,105,114,109]
 | 5=>[109,101,109,98,101,114,115,104,105,112]
 | 6=>[114,101,115,117,109,112,116,105,111,110]
 | 7=>[97,117,116,104,101,110,116,105,99,97,116,105,111,110]
 | 8=>[105,110,105,116]
 | _=>[]
theorem labS_lt:∀ i x,x∈labS i→x<256
 | 0=>by decide
 | 1=>by decide
 | 2=>by decide
 | 3=>by decide
 | 4=>by decide
 | 5=>by decide
 | 6=>by decide
 | 7=>by decide
 | 8=>by decide
 | _+9=>fun _ h=>by cases h
theorem labS_len:∀ i,(labS i).length≤65528
 | 0=>by decide
 | 1=>by decide
 | 2=>by decide
 | 3=>by decide
 | 4=>by decide
 | 5=>by decide
 | 6=>by decide
 | 7=>by decide
 | 8=>by decide
 | _+9=>(Nat.zero_le _:0≤65528)
def dvR (g:Nat):List Value:=[.string { data:=#[115,101,110,100,101,114,32,100,97,116,97] },pA g 0,.string { data:=#[101,110,99,114,121,112,116,105,111,110] },pA g 1,.string { data:=#[101,120,112,111,114,116,101,114] },pA g 2,.string { data:=#[101,120,116,101,114,110,97,108] },pA g 3,.string { data:=#[99,111,110,102,105,114,109] },pA g 4,.string { data:=#[109,101,109,98,101,114,115,104,105,112] },pA g 5,.string { data:=#[114,101,115,117,109,112,116,105,111,110] },pA g 6,.string { data:=#[97,117,116,104,101,110,116,105,99,97,116,105,111,110] },pA g 7,.string { data:=#[105,110,105,116] },pA g 8]
theorem dvR_at (g:Nat):∀ q,q<9→(dvR g)[2*q]? = some (.string (strL (labS q)))∧(dvR g)[2*q+1]? = some (pA g q)
 | 0,_=>⟨rfl,rfl⟩
 | 1,_=>⟨rfl,rfl⟩
 | 2,_=>⟨rfl,rfl⟩
 | 3,_=>⟨rfl,rfl⟩
 | 4,_=>⟨rfl,rfl⟩
 | 5,_=>⟨rfl,rfl⟩
 | 6,_=>⟨rfl,rfl⟩
 | 7,_=>⟨rfl,rfl⟩
 | 8,_=>⟨rfl,rfl⟩
 | q+9,h=>absurd h (by omega)
set_option maxRecDepth 20000 in
theorem derivedOf_any (g:Nat) (w:World) :
 Calls Tryd.prog 28 #[pA g 0] w fun e w'=>∃ h,e = .returned (.slice (some ⟨h,0,none⟩) 9 9)∧RW w' h 0 (dvR g)∧w.heap.size≤h∧Below w.heap.size w w':=by
 go_enter Tryd.func28,Tryd.ntmps28
 go_upto_region 1 with (fail)
 refine wp_region_noPanic ?_
 refine wp_region_held_drew (S:=fun u=>Below w.drew.heap.size w.drew u) (by kernel_rfl) (Below.refl _ _) (fun hS => ?_)
 have hd:Below w.heap.size w w.drew:=(Below.refl _ _).drew
 generalize w.drew=V at *
 refine tg 0 hS ?_
 (try simp only [pS])
 refine tg 1 hS ?_
 (try simp only [pS])
 refine tg 2 hS ?_
 (try simp only [pS])
 refine tg 3 hS ?_
 (try simp only [pS])
 refine tg 4 hS ?_
 (try simp only [pS])
 refine tg 5 hS ?_
 (try simp only [pS])
 refine tg 6 hS ?_
 (try simp only [pS])
 refine tg 7 hS ?_
 (try simp only [pS])
 refine tg 8 hS ?_
 (try simp only [pS])
 refine tg 9 hS ?_
 (try simp only [pS])
 refine tg 10 hS ?_
 (try simp only [pS])
 refine tg 11 hS ?_
 (try simp only [pS])
 refine tg 12 hS ?_
 (try simp only [pS])
 refine tg 13 hS ?_
 (try simp only [pS])
 refine tg 14 hS ?_
 (try simp only [pS])
 refine tg 15 hS ?_
 (try simp only [pS])
 refine tg 16 hS ?_
 (try simp only [pS])
 refine tg 17 hS ?_
 (try simp only [pS])
 refine tg 18 hS ?_
 (try simp only [pS])
 refine tg 19 hS ?_
 (try simp only [pS])
 refine tg 20 hS ?_
 (try simp only [pS])
 refine tg 21 hS ?_
 (try simp only [pS])
 refine tg 22 hS ?_
 (try simp only [pS])
 refine tg 23 hS ?_
 (try simp only [pS])
 refine tg 24 hS ?_
 (try simp only [pS])
 refine tg 25 hS ?_
 (try simp only [pS])
 refine tg 26 hS ?_
 (try simp only [pS])
 refine tg 27 hS ?_
 (try simp only [pS])
 refine tg 28 hS ?_
 (try simp only [pS])
 refine tg 29 hS ?_
 (try simp only [pS])
 refine tg 30 hS ?_
 (try simp only [pS])
 refine tg 31 hS ?_
 (try simp only [pS])
 refine tg 32 hS ?_
 (try simp only [pS])
 refine tg 33 hS ?_
 (try simp only [pS])
 refine tg 34 hS ?_
 (try simp only [pS])
 refine tg 35 hS ?_
 (try simp only [pS])
 refine wpAnyH_ready (rs:=[36]) (by kernel_rfl) (by simp) ?_
 refine zG 36 (fun h => .slice (some ⟨h,0,none⟩) 9 9) (dvR g) 65 (fun u hb=>hb) (fun w1 h lh hb r => ?_) AllReadyH.nil
 have hd1:=below_next hd hb
 have lh1:=Nat.le_trans hd.size lh
 (try simp only [pS])
 refine tg 37 hb ?_
 (try simp only [pS])
 refine wpAnyH_done (by kernel_rfl) ?_ _
 refine NoPanic.normal ?_
 go_wp2
 go_ret
 exact ⟨h,rfl,r,lh1,hd1⟩
set_option maxRecDepth 20000 in
set_option maxHeartbeats 2000000 in
theorem bClone_any (v:Value) (n:Nat) (b:Nat→Nat) (hn:n<140737488355000) (w:World) (hv:BytesIn w v n b):Calls Tryd.prog 27 #[v] w fun e w'=>∃ u,e = .returned u∧Own w.heap.size w' u n b∧Below w.heap.size w w':=by
 obtain ⟨x1,c1,rfl,hxn,-,hsrc⟩:=hv.src
 have hsu:=hsrc _ ((Below.refl w.heap.size w).alloc (Nat.le_refl _) (.cells #[] 5))
 rcases x1 with _ | ad
 · obtain rfl:=hxn rfl
   obtain rfl:n=0:=by
    rcases hv with ⟨xo,_,h⟩ | ⟨bb,ob,cap,e,_⟩
    · exact h
    · cases e
   clear hv hsrc hsu
   go_enter Tryd.func27,Tryd.ntmps27
   go_wp2_with (refine wpList_eqnil0 rfl _ _ _ rfl _ _ rfl rfl ?_)
   go_ret
   exact ⟨_,rfl,Own.nil _ _ _,Below.refl _ _⟩
 · clear hv hsrc
   go_enter Tryd.func27,Tryd.ntmps27
   go_wp2_with (first
    | (refine wpList_eqnil rfl _ _ _ rfl _ _ _ rfl rfl ?_)
    | (at_builtin;refine wpList_append_empty rfl (.tmp 5) (.tmp 6) rfl w.heap.size b w.heap.size rfl rfl (some ad) n c1 rfl hsu hxn (by omega) (Nat.le_refl _) ?_;intro v3 w3 own3 hb3;(obtain ⟨y3,d3,e3⟩:=own3.slice);subst e3))
   go_ret
   exact ⟨_,rfl,own3,hb3⟩
theorem BytesIn.setV {w:World} {v:Value} {n:Nat} {bs:Nat→Nat} (h:BytesIn w v n bs) {g o:Nat} {u:Value} (hc:w.cell? ⟨g,o,none⟩=some u) (hu:∀ z,u ≠ .int .u8 z) (x:Value):BytesIn (w.setCell ⟨g,o,none⟩ x) v n bs :=
 ((BI.all h).put hc hu x).of (by simp)
def TxRow (W:World) (cs:List Value) (n:Nat) (N:Nat→Nat) (B:Nat→Nat→Nat):Prop:=cs.length=n∧∀ i v,cs[i]? = some v→BytesIn W v (N i) (B i)
theorem TxRow.still {W W':World} {cs:List Value} {n:Nat} {N:Nat→Nat} {B:Nat→Nat→Nat} (h:TxRow W cs n N B) (hb:Below W.heap.size W W'):TxRow W' cs n N B:=⟨h.1,fun i v hv=>(h.2 i v hv).keep hb⟩
end Go.Proofs.YtkoedfmdhdikaaaDoor
namespace Go.Proofs.YtkoedfmdhdikaaaDoor
open Go.ChangeShapes Go.WideShapes Go.ChangeAt Go.RowKit
theorem plainV {w:World} {b o:Nat} {sp:Option Nat} {v:Value} (h:w.cell? ((⟨b,o,sp⟩:Addr).add 0)=some v):sp=none:=by
 cases sp with
 | none=>rfl
 | some k =>
  exfalso
  unfold World.cell? Addr.add at h
  simp at h
  split at h <;> simp at h
section
variable {H:Type} {enc:TypeId × Value→H} {W:World} {fuel:Nat} {x:DataW H × List MemPlace}
theorem bytesV {v:Value} (h:DataW.trod enc Tryd.prog W 0 (fun _=>true) true fuel 24 [v]=some x):∃ (n:Nat) (b:Nat→Nat),BytesIn W v n b∧(∀ j,b j<256)∧(n=0∨∃ elems spare,x.1 = .slice elems spare∧elems.length=n):=by
 rcases open_ints Tryd.underlying24 Tryd.underlying5 cellsOfByte h with ⟨hcs,hx⟩ | ⟨a,len,cap,zs,hcs,_,hl,hm,hz,hx,hcell,hwz⟩
 · obtain rfl:v = .slice none 0 0:=by simpa using hcs
   exact ⟨0,lZ,.inl ⟨none,rfl,rfl⟩,(fun _=>by show 0<256;decide),.inl rfl⟩
 · obtain rfl:v = .slice (some a) len cap:=by simpa using hcs
   simp only [if_true] at hz
   have hn:∀ j,0≤zs.getD j 0∧zs.getD j 0<256:=fun j=>by
    rw [List.getD_eq_getElem?_getD]
    cases h:zs[j]? with
    | none=>simp
    | some x =>
     have:=hwz x (List.mem_of_getElem? h)
     have h0:(0:Int)≤x∧x≤255:=by simpa [Lit.wf,IntKind.min,IntKind.max,IntKind.signed,IntKind.bits] using this
     show 0≤x∧x<256
     omega
   refine ⟨len,fun j=>(zs.getD j 0).toNat,?_,fun j=>by have:=hn j;show (zs.getD j 0).toNat<256;omega,.inr ⟨_,_,by rw [hx],?_⟩⟩
   · by_cases hC:cap=0
     · exact .inl ⟨some a,by rw [hC,show len=0 by omega],show len=0 by omega⟩
     · obtain ⟨b,o,sp⟩:=a
       have hc0:=hcell 0 (by omega)
       obtain rfl:=plainV hc0
       rw [Addr.add_mid] at hc0
       refine .inr ⟨b,o,cap,rfl,block_lt_of_cell hc0,hl,fun j hj => ?_⟩
       replace hj:j<len:=hj
       have h:=hcell j (by omega)
       rw [Addr.add_mid] at h
       rw [h]
       show _=some (Value.int .u8 (((zs.getD j 0).toNat:Nat):Int))
       rw [Int.toNat_of_nonneg (hn j).1]
   · simp [lits]
     omega
theorem cellsIntV:Tryd.prog.cellsOf 3=1:=by kernel_rfl
theorem cellsBytesV:Tryd.prog.cellsOf 24=1:=by kernel_rfl
theorem under_cx:∃ f0 f1 f2 f3:Field,Tryd.prog.underlying 38=some (.struct #[f0,f1,f2,f3])∧(f0.type=24∧f1.type=3∧f2.type=24∧f3.type=24)∧(f0.offset=0∧f1.offset=1∧f2.offset=2∧f3.offset=3):=⟨_,_,_,_,Tryd.underlying38,⟨rfl,rfl,rfl,rfl⟩,⟨rfl,rfl,rfl,rfl⟩⟩
theorem cellsOfCx:Tryd.prog.cellsOf 38=4:=by kernel_rfl
def cxLn (d:CxD):Prop:=d.gn<140737488352000∧d.tn<140737488352000∧d.rn<140737488352000
set_option maxRecDepth 20000 in
theorem cxC {cs:List Value} (h:DataW.trod enc Tryd.prog W 0 (fun _=>true) true fuel 38 cs=some x) (hR:(DataW.weightsEach Tryd.prog [38] [x.1]).all (·≤reachBytes)=true):∃ d,CxIn W cs d∧cxB d∧cxLn d:=by
 obtain ⟨f0,f1,f2,f3,hu,⟨t0,t1,t2,t3⟩,o0,o1,o2,o3⟩:=under_cx
 obtain ⟨xs,n,_,rfl,hl,hlen,hf⟩:=DataW.trod_struct hu h
 rw [cellsOfCx] at hl
 match xs,hlen,cs,hl with
 | [y0,y1,y2,y3],_,[v0,v1,v2,v3],_ =>
  have g0:=hf 0 f0 rfl
  have g1:=hf 1 f1 rfl
  have g2:=hf 2 f2 rfl
  have g3:=hf 3 f3 rfl
  rw [t0,o0,cellsBytesV] at g0
  rw [t1,o1,cellsIntV] at g1
  rw [t2,o2,cellsBytesV] at g2
  rw [t3,o3,cellsBytesV] at g3
  obtain ⟨n0,b0,i0,l0,d0⟩:=bytesV (x:=y0) g0
  obtain ⟨n2,b2,i2,l2,d2⟩:=bytesV (x:=y2) g2
  obtain ⟨n3,b3,i3,l3,d3⟩:=bytesV (x:=y3) g3
  obtain ⟨z,rfl⟩:∃ z,v1 = .int .i64 z:=by
   obtain ⟨z,hz,-⟩:=DataW.trod_int Tryd.underlying3 (show DataW.trod enc Tryd.prog W 0 (fun _=>true) true n 3 [v1]=some y1 from g1)
   exact ⟨z,by simpa using hz⟩
  have hR':(DataW.weightsEach Tryd.prog [24,3,24,24] [y0.1,y1.1,y2.1,y3.1]).all (·≤reachBytes)=true:=by
   refine List.all_eq_true.2 fun x hx=>List.all_eq_true.1 hR x (DataW.weights_mem_each (j:=0) rfl rfl x ?_)
   simp only [List.map_cons,List.map_nil,DataW.weights,hu,t0,t1,t2,t3]
   exact hx
  exact ⟨⟨n0,b0,z,n2,b2,n3,b3⟩,⟨v0,v2,v3,rfl,i0,i2,i3⟩,⟨l0,l2,l3⟩,⟨bytes_reach2 hR' (j:=0) rfl rfl d0,bytes_reach2 hR' (j:=2) rfl rfl d2,bytes_reach2 hR' (j:=3) rfl rfl d3⟩⟩
set_option maxRecDepth 20000 in
theorem open_cx {base:Nat} {v:Value} {d:DataW H} {ps:List MemPlace} {ts:List TypeId} {ds:List (DataW H)} (hval:Value.okWide Tryd.prog W .any base 38 v) (h:DataW.Trod enc Tryd.prog W 0 (fun _=>true) true 38 v d ps)
 (hR:(DataW.weightsEach Tryd.prog ts ds).all (·≤reachBytes)=true) {j:Nat} (ht:ts[j]? = some 38) (hd:ds[j]? = some d):∃ cs e,v = .agg cs.toArray∧CxIn W cs e∧cxB e∧cxLn e:=by
 obtain ⟨f0,f1,f2,f3,hu,-⟩:=under_cx
 obtain ⟨cs,rfl,-⟩:=okWide_struct hu hval
 obtain ⟨fuel,hf⟩:=h
 have hR':(DataW.weightsEach Tryd.prog [38] [d]).all (·≤reachBytes)=true:=List.all_eq_true.2 fun x hx=>List.all_eq_true.1 hR x (DataW.weights_mem_each ht hd x (by simpa [DataW.weightsEach] using hx))
 obtain ⟨e,h1,h2,h3⟩:=cxC (x:=(d,ps)) (cs:=cs.toList) hf hR'
 exact ⟨cs.toList,e,by simp,h1,h2,h3⟩
end
end Go.Proofs.YtkoedfmdhdikaaaDoor
namespace Go.Proofs.YtkoedfmdhdikaaaDoor
open Go.RowKit
section
variable {P:Program} {md:Region.Mode} {ops:Array Oper} {Q:Exit→Act→World→Prop} {S:World→Prop} {fuel:Nat} {listed:Array Bool} {a:Act} {w:World}
def LastQ (P:Program) (ops:Array Oper) (Q:Exit→Act→World→Prop) (t:Nat):Exit→Act→World→Prop
 | .normal,a,w=>wpOp P ops Q t (Q .normal) a w
 | e,a,w=>Q e a w
def backward (md:Region.Mode) (ops:Array Oper):Bool:=(List.range ops.size).all fun i=>match ops[i]? with
 | none=>true
 | some o=>o.after.toList.all fun e=>!Region.binds md e || decide (e.on<i)
def waitsAll (md:Region.Mode) (ops:Array Oper) (t:Nat):Bool:=match ops[t]? with
 | none=>false
 | some o=>(List.range ops.size).all fun i=>decide (i=t) || o.after.toList.any fun e=>Region.binds md e && decide (e.on=i)
theorem backward_at (h:backward md ops=true) {i:Nat} {o:Oper} (ho:ops[i]? = some o) {e:Edge} (he:e∈o.after) (hb:Region.binds md e=true):e.on<i:=by
 have h1:=List.all_eq_true.1 h i (List.mem_range.2 (Array.getElem?_eq_some_iff.1 ho).1)
 rw [ho] at h1
 have h2:=List.all_eq_true.1 h1 e (Array.mem_toList_iff.2 he)
 rw [hb] at h2
 simpa using h2
theorem waitsAll_at {t:Nat} (h:waitsAll md ops t=true):∃ o,ops[t]? = some o∧∀ i,i<ops.size→i≠t→∃ e∈o.after,Region.binds md e=true∧e.on=i:=by
 unfold waitsAll at h
 split at h
 · cases h
 · rename_i o ho
   refine ⟨o,ho,fun i hi hne => ?_⟩
   have h1:=List.all_eq_true.1 h i (List.mem_range.2 hi)
   rw [decide_eq_false hne,Bool.false_or] at h1
   obtain ⟨e,he,h2⟩:=List.any_eq_true.1 h1
   rw [Bool.and_eq_true,decide_eq_true_eq] at h2
   exact ⟨e,Array.mem_toList_iff.1 he,h2.1,h2.2⟩
theorem wpOp_swap {Q':Exit→Act→World→Prop} (hp:∀ c a w,Q' (.panic c) a w→Q (.panic c) a w) (hl:LetsOut Q'→LetsOut Q) {i:Nat} {K:Act→World→Prop} (hh:wpOp P ops Q' i K a w):wpOp P ops Q i K a w:=by
 unfold wpOp at *
 split
 · simpa [*] using hh
 · rename_i o ho
   simp only [ho] at hh
   split
   · rename_i hw
     simp only [hw,if_true] at hh
     refine hh.imp (fun hh => ?_) (fun h=>⟨h.1,hl h.2⟩)
     unfold Oper.wp at *
     generalize (execOp a.eval o).run P w=r at *
     cases r with
     | ok n w' =>
      cases n <;> simp only [Oper.upon] at hh ⊢ <;>
       first
        | exact hh
        | exact Calls.mono hh (fun e w'' he=>by cases e <;> first | exact he | exact hp _ _ _ he | exact hl he)
     | halt x w'=>cases x <;> simp only [Oper.upon] at hh ⊢ <;> first | exact hh | exact hp _ _ _ hh
   · rename_i hw;simp only [hw] at hh;exact hh
theorem wpAny_end (hr:Region.ready md ops listed=[]) (h:Q .normal a w):∀ fuel,wpAny P md ops Q fuel listed a w
 | 0=>⟨hr,h⟩
 | _+1=>⟨fun _=>h,by rw [hr];simp⟩
theorem all_listed {t:Nat} (hb:backward md ops=true) (hz:listed.size=ops.size) (hr:Region.ready md ops (listed.setIfInBounds t true)=[]):∀ i,i<ops.size→i≠t→listed.getD i true=true:=by
 intro i
 induction i using Nat.strongRecOn with
 | ind i ih =>
  intro hi hne
  cases hc:listed.getD i true with
  | true=>rfl
  | false =>
   have hmem:i∈Region.ready md ops (listed.setIfInBounds t true):=by
    rw [mem_ready]
    refine ⟨by rw [getD_set_ne true (Ne.symm hne)];exact hc,ops[i],Array.getElem?_eq_getElem hi,fun e he hbe => ?_⟩
    have hlt:=backward_at hb (Array.getElem?_eq_getElem hi) he hbe
    by_cases het:e.on=t
    · rw [het]
      have:t<listed.size:=by omega
      simp [this]
    · have h1:=ih e.on hlt (by omega) het
      have hs:e.on<listed.size:=by omega
      rw [getD_set_ne false (Ne.symm het)]
      simp [hs] at h1 ⊢
      exact h1
   rw [hr] at hmem
   cases hmem
theorem wpAny_last {t:Nat} (ht:t<ops.size) (hb:backward md ops=true) (hw:waitsAll md ops t=true):∀ (fuel:Nat) (listed:Array Bool) (a:Act) (w:World),listed.size=ops.size→listed.getD t true=false →
 wpAny P md ops (LastQ P ops Q t) fuel (listed.setIfInBounds t true) a w→wpAny P md ops Q (fuel+1) listed a w:=by
 intro fuel
 induction fuel with
 | zero =>
  intro listed a w hz hlt h
  have hall:=all_listed hb hz h.1
  have hq:wpOp P ops Q t (Q .normal) a w:=h.2
  obtain ⟨o,ho,-⟩:=waitsAll_at hw
  have hmt:t∈Region.ready md ops listed:=mem_ready.2 ⟨hlt,o,ho,fun e he hbe=>by
   have h1:=backward_at hb ho he hbe
   have h2:=hall e.on (by omega) (by omega)
   have hs:e.on<listed.size:=by omega
   simp [hs] at h2 ⊢
   exact h2⟩
  refine ⟨fun h0=>(by rw [h0] at hmt;cases hmt),fun i hi => ?_⟩
  by_cases hit:i=t
  · subst hit
    exact wpOp_mono (fun a' w' h'=>wpAny_end h.1 h' _) hq
  · have:=ready_mono hi hit
    rw [h.1] at this
    cases this
 | succ fuel ih =>
  intro listed a w hz hlt h
  by_cases hr:Region.ready md ops (listed.setIfInBounds t true)=[]
  · have hall:=all_listed hb hz hr
    have hq:wpOp P ops Q t (Q .normal) a w:=h.1 hr
    obtain ⟨o,ho,-⟩:=waitsAll_at hw
    have hmt:t∈Region.ready md ops listed:=mem_ready.2 ⟨hlt,o,ho,fun e he hbe=>by
     have h1:=backward_at hb ho he hbe
     have h2:=hall e.on (by omega) (by omega)
     have hs:e.on<listed.size:=by omega
     simp [hs] at h2 ⊢
     exact h2⟩
    refine ⟨fun h0=>(by rw [h0] at hmt;cases hmt),fun i hi => ?_⟩
    by_cases hit:i=t
    · subst hit
      exact wpOp_mono (fun a' w' h'=>wpAny_end hr h' _) hq
    · have:=ready_mono hi hit
      rw [hr] at this
      cases this
  · obtain ⟨o,ho,hwt⟩:=waitsAll_at hw
    obtain ⟨j,hj⟩:=List.exists_mem_of_ne_nil _ hr
    obtain ⟨hju,oj,hoj,hjall⟩:=mem_ready.1 hj
    have hjs:j<ops.size:=(Array.getElem?_eq_some_iff.1 hoj).1
    have hjt:j≠t:=fun e=>by
     subst e
     have:j<listed.size:=by omega
     simp [this] at hju
    have hnt:t ∉ Region.ready md ops listed:=fun hm=>by
     obtain ⟨-,o',ho',hall⟩:=mem_ready.1 hm
     rw [ho] at ho'
     cases ho'
     obtain ⟨e,he,hbe,hej⟩:=hwt j hjs hjt
     have h1:=hall e he hbe
     rw [hej] at h1
     rw [getD_set_ne true (Ne.symm hjt)] at hju
     have hs:j<listed.size:=by omega
     simp [hs] at h1 hju
     rw [h1] at hju
     cases hju
    have hsome:∃ i,i∈Region.ready md ops listed:=by
     have hex:∃ i,i<ops.size∧i≠t∧listed.getD i true=false:=⟨j,hjs,hjt,by rwa [getD_set_ne true (Ne.symm hjt)] at hju⟩
     refine Classical.byContradiction fun hno => ?_
     obtain ⟨i,hi,hit,hiu⟩:=hex
     have hall:∀ i,i<ops.size→i≠t→listed.getD i true=true:=by
      intro i
      induction i using Nat.strongRecOn with
      | ind i ihh =>
       intro hi hne
       cases hc:listed.getD i true with
       | true=>rfl
       | false =>
        exfalso
        by_cases hti:∃ e∈ops[i].after,Region.binds md e=true∧e.on=t
        · obtain ⟨e1,he1,hb1,h1t⟩:=hti
          obtain ⟨e2,he2,hb2,h2i⟩:=hwt i hi hne
          have g1:=backward_at hb (Array.getElem?_eq_getElem hi) he1 hb1
          have g2:=backward_at hb ho he2 hb2
          omega
        · refine hno ⟨i,mem_ready.2 ⟨hc,ops[i],Array.getElem?_eq_getElem hi,fun e he hbe => ?_⟩⟩
          have hlt':=backward_at hb (Array.getElem?_eq_getElem hi) he hbe
          have h1:=ihh e.on hlt' (by omega) (fun het=>hti ⟨e,he,hbe,het⟩)
          have hs:e.on<listed.size:=by omega
          simp [hs] at h1 ⊢
          exact h1
     rw [hall i hi hit] at hiu
     cases hiu
    refine ⟨fun h0=>(by obtain ⟨i,hi⟩:=hsome;rw [h0] at hi;cases hi),fun i hi => ?_⟩
    have hit:i≠t:=fun e=>hnt (e ▸ hi)
    have h1:=h.2 i (ready_mono hi hit)
    refine wpOp_swap (Q':=LastQ P ops Q t) (fun _ _ _ h=>h) (fun h=>h) (wpOp_mono (fun a' w' h' => ?_) h1)
    refine ih (listed.setIfInBounds i true) a' w' (by simpa using hz) (by rw [getD_set_ne true hit];exact hlt) ?_
    rw [Array.setIfInBounds_comm _ _ hit]
    exact h'
theorem wp_last {id:Nat} (t:Nat) (hm:P.follows .mixedOrders=true) (ht:t+1=ops.size) (hb:backward .any ops=true) (hw:waitsAll .any ops t=true) (hS:S w.drew)
 (h:S w.drew→wpAnyH P .any ops (LastQ P ops (NoPanic Q) t) S t ((Array.replicate (t+1) false).setIfInBounds t true) a w.drew):(Code.region id ops true).wp P Q a w:=by
 refine wp_region_noPanic (wp_region_any hm ?_)
 rw [←ht]
 refine wpAny_last (by omega) hb hw t _ a _ (by simp [ht]) (by simp) ?_
 exact wpAny_of_held _ _ _ _ (h hS)
theorem lastRow (t:Nat) {ot:Oper} (ty x y:Nat) {g off:Nat} {cs:List Value} (ds:List Value) (r:RW w g off cs) (hl:ds.length=cs.length) (hin:(P.info? ty).map (·.size)=some ds.toArray.size) (h1:ds.toArray.all (·.oneCell')=true) (h:RW (w.setCells g off ds) g off ds→Q .normal (a.put ot.dst undef) (w.setCells g off ds))
 (hi:ops.toList[t]? = some ot:=by rfl) (ho:ot.op = .store ty (.tmp x) (.tmp y):=by rfl) (hx:a.eval (.tmp x) = .pointer (some ⟨g,off,none⟩):=by rfl) (hy:a.eval (.tmp y) = .agg ds.toArray:=by rfl) (hw:Region.wanted ot (yielded ops a.tmps)=true:=by rfl):LastQ P ops Q t .normal a w:=by
 show wpOp P ops Q t (Q .normal) a w
 unfold wpOp
 rw [at_list hi]
 dsimp only
 rw [if_pos hw]
 exact .inl (wp_store_mid ty _ _ ho g off ds.toArray hx hy (by rw [List.size_toArray,hl];exact r.there) hin h1 (h (r.stored ds hl)))
theorem lastRun (t:Nat) {ot:Oper} {w':World} (h:Q .normal (a.put ot.dst undef) w') (hi:ops.toList[t]? = some ot:=by rfl) (hw:Region.wanted ot (yielded ops a.tmps)=true:=by rfl)
 (hrun:(execOp a.eval ot).run P w = .ok .skip w':=by go_simp;try with_reducible rfl):LastQ P ops Q t .normal a w:=by
 show wpOp P ops Q t (Q .normal) a w
 unfold wpOp
 rw [at_list hi]
 dsimp only
 rw [if_pos hw]
 refine .inl ?_
 unfold Oper.wp
 rw [hrun]
 exact h
end
end Go.Proofs.YtkoedfmdhdikaaaDoor
