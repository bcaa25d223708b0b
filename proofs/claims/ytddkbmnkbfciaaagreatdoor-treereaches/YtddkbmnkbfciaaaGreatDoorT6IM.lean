/- What the proof stands on: T6I, T6G, D1OL, T6K. -/
import Derived.Test.YtddkbmnkbfciaaaGreatDoorN3HM
import Derived.Test.YtddkbmnkbfciaaaGreatDoorT4WM
import Derived.Test.YtddkbmnkbfciaaaGreatDoorT4ZM
import Derived.Test.YtddkbmnkbfciaaaGreatDoorT5KM
import Derived.Test.YtddkbmnkbfciaaaGreatDoorZAb2M
namespace Go.Proofs.YtddkbmnkbfciaaaGreatDoor
open Go.RowKit Go.Shelf
def idxN (I:Int) (L:Nat):Nat:=(Int.tmod (wrap64 (Int.tmod I (L:Int)+(L:Int))) (L:Int)).toNat
theorem idxN_eq {I:Int} {L:Nat} (h:0<L) (h2:L<1000):idxN I L<L∧Int.tmod (wrap64 (Int.tmod I (L:Int)+(L:Int))) (L:Int)=(idxN I L:Int):=by
 obtain ⟨y,h3,h4⟩:=norm_place I L h h2
 unfold idxN
 rw [h4]
 exact ⟨h3,rfl⟩
def ksT (fr:Nat):Nat→List Tx
 | 0=>[]
 | q+1=>ksT fr q ++ [⟨32,keyB (1000000+50*fr+q)⟩]
theorem ksT_len (fr:Nat):∀ q,(ksT fr q).length=q
 | 0=>rfl
 | q+1=>by unfold ksT;rw [List.length_append,ksT_len fr q];rfl
theorem ksT_32 (fr:Nat):∀ q,∀ t∈ksT fr q,t.n=32∧∀ j,t.b j<256
 | 0,t,h=>by simp [ksT] at h
 | q+1,t,h=>by
  unfold ksT at h
  rcases List.mem_append.1 h with h | h
  · exact ksT_32 fr q t h
  · simp at h;rw [h];exact ⟨rfl,fun j=>s256_lt _ _ j⟩
def lfU (n:Nat):LfD:={ lfM n with src:=2 }
def lfC (n:Nat) (h:Tx):LfD:={ lfM n with src:=3,hash:=h }
theorem lfU_R (n:Nat):lfR (lfU n) 3:=by
 refine ⟨rfl,rfl,⟨Nat.le_refl 1,(by decide:1≤64)⟩,⟨(by decide:(1:Int)≤2),(by decide:(2:Int)≤3)⟩,?_,rfl⟩
 show if (2:Int)=3 then _ else _
 rw [if_neg (by decide)];rfl
theorem lfC_R (n:Nat) {h:Tx} (hn:h.n=0∨h.n=32):lfR (lfC n h) 3:=by
 refine ⟨rfl,rfl,⟨Nat.le_refl 1,(by decide:1≤64)⟩,⟨(by decide:(1:Int)≤3),(by decide:(3:Int)≤3)⟩,?_,rfl⟩
 show if (3:Int)=3 then _ else _
 rw [if_pos rfl];exact hn
theorem lfU_K (n:Nat):lfK (lfU n):=lfM_K n
theorem lfC_K (n:Nat) {h:Tx} (hb:∀ j,h.b j<256):lfK (lfC n h):=⟨(lfM_K n).1,(lfM_K n).2.1,(lfM_K n).2.2.1,hb,(lfM_K n).2.2.2.2⟩
def who (T:Tr) (I:Int):Int:=((mbs T)[idxN I (mbs T).length]?).getD 0
def cmT (T:Tr) (fr:Nat) (i:Int):Tr × Tx:=spT T i (ksT (fr+1) (filL T i).length)
def lvS (T:Tr) (fr:Nat) (kd I:Int):Tr :=
 if kd=0 then (if fbL T.nd T.n=T.n∧T.n=64 then T else addT T (lfM fr))
 else if kd=1 then (if 1<(mbs T).length then remT T (who T I) else T)
 else if kd=2 then ⟨T.n,delL (upn T.nd (2*who T I) (some (.lf (lfU fr)))) (pathL (who T I) T.n)⟩
 else ⟨T.n,upn (cmT T fr (who T I)).1.nd (2*who T I) (some (.lf (lfC fr (cmT T fr (who T I)).2)))⟩
def lvT (ss:List (Int × Int)):Nat→Tr
 | 0=>addT kT0 (lfM 0)
 | k+1=>lvS (lvT ss k) (k+1) ((ss[k]?).getD (0,0)).1 ((ss[k]?).getD (0,0)).2
structure LvI (T:Tr) (c:Nat):Prop where
 gd:Gd T
 ne:1≤(mbs T).length
 cnt:(mbs T).length≤c
 wd:tooB T=false
theorem tooB_iff {T:Tr}:tooB T=false↔T.n≤1∨∃ k,k<T.n∧T.n / 2≤k∧(T.nd (2*(k:Int))).isSome=true:=by
 unfold tooB
 rw [Bool.and_eq_false_iff,decide_eq_false_iff_not,Bool.not_eq_false',rightN_iff]
 constructor
 · rintro (h | h)
   · exact .inl (by omega)
   · exact .inr h
 · rintro (h | h)
   · exact .inl (by omega)
   · exact .inr h
theorem who_at {T:Tr} (h:Gd T) (hne:1≤(mbs T).length) (I:Int):idxN I (mbs T).length<(mbs T).length∧(mbs T)[idxN I (mbs T).length]? = some (who T I)∧0≤who T I∧who T I<T.n∧(T.nd (2*who T I)).isSome=true:=by
 have hl:=mbL_len T.nd T.n
 have hn:=h.ok.n64
 have h1:=(idxN_eq (I:=I) (L:=(mbs T).length) (by omega) (by unfold mbs;omega)).1
 have h2:(mbs T)[idxN I (mbs T).length]? = some (who T I):=by
  unfold who
  rw [List.getElem?_eq_getElem h1];rfl
 obtain ⟨k,h3,h4,h5⟩:=(mbL_mem T.nd T.n _).1 (List.mem_of_getElem? h2)
 refine ⟨h1,h2,by omega,by omega,?_⟩
 rw [h4];exact h5
theorem mbs_same {n:Nat} {F G:Int→Option Nd} (h:∀ k:Nat,k<n→(F (2*(k:Int))).isSome=(G (2*(k:Int))).isSome):mbs ⟨n,F⟩=mbs ⟨n,G⟩∧tooB ⟨n,F⟩=tooB ⟨n,G⟩:=by
 refine ⟨mbL_congr h,?_⟩
 have hb:∀ (b c:Bool),(b=false↔c=false)→b=c:=fun b c hbc=>by cases b <;> cases c <;> simp_all
 refine hb _ _ ?_
 rw [tooB_iff,tooB_iff]
 constructor
 · rintro (h1 | ⟨k,h1,h2,h3⟩)
   · exact .inl h1
   · exact .inr ⟨k,h1,h2,(h k h1).symm.trans h3⟩
 · rintro (h1 | ⟨k,h1,h2,h3⟩)
   · exact .inl h1
   · exact .inr ⟨k,h1,h2,(h k h1).trans h3⟩
theorem LvI.addT {T:Tr} {c:Nat} (h:LvI T c) (hf:fbL T.nd T.n≠T.n∨T.n≠64) {d:LfD} (hR:lfR d 3) (hK:lfK d):LvI (addT T d) (c+1):=by
 obtain ⟨h1,h2⟩:=add_mbs h.gd.ok hf d
 refine ⟨h.gd.add hf hR hK,?_,by have:=h.cnt;omega,?_⟩
 · have:(fbL T.nd T.n:Int)∈mbs (_root_.Go.Proofs.YtddkbmnkbfciaaaGreatDoor.addT T d):=(h2 _).2 (.inr rfl)
   exact List.length_pos_of_mem this
 · rw [tooB_iff]
   obtain ⟨-,h4,h5⟩:=addN_may h.gd.ok hf
   have e:(_root_.Go.Proofs.YtddkbmnkbfciaaaGreatDoor.addT T d).n=addN T:=rfl
   rw [e]
   by_cases e2:fbL T.nd T.n=T.n
   · right
     have e3:addN T=2*T.n:=by unfold addN;rw [if_pos e2]
     refine ⟨T.n,by omega,by omega,?_⟩
     rw [addT_some,e2]
     unfold upn
     rw [if_pos rfl];rfl
   · have e3:addN T=T.n:=by unfold addN;rw [if_neg e2]
     rw [e3]
     rcases tooB_iff.1 h.wd with h6 | ⟨k,h6,h7,h8⟩
     · exact .inl h6
     · refine .inr ⟨k,h6,h7,?_⟩
       rw [addT_some]
       unfold upn
       split
       · rfl
       · exact h8
theorem LvI.remT {T:Tr} {c:Nat} (h:LvI T c) (h2:1<(mbs T).length) (i:Int):LvI (remT T i) (c+1):=by
 have h3:=rem_len T i
 refine ⟨h.gd.rem i,by omega,by have:=h.cnt;omega,?_⟩
 refine shr_fit 7 _ ?_
 have:=h.gd.ok.n64
 show T.n<2 ^ 7
 omega
theorem LvI.same {T:Tr} {c:Nat} (h:LvI T c) {F:Int→Option Nd} (hg:Gd ⟨T.n,F⟩) (hs:∀ k:Nat,k<T.n→(F (2*(k:Int))).isSome=(T.nd (2*(k:Int))).isSome):LvI ⟨T.n,F⟩ (c+1):=by
 obtain ⟨h1,h2⟩:=mbs_same (n:=T.n) (G:=T.nd) hs
 have e1:mbs ⟨T.n,F⟩=mbs T:=h1
 have e2:tooB ⟨T.n,F⟩=tooB T:=h2
 exact ⟨hg,by rw [e1];exact h.ne,by rw [e1];have:=h.cnt;omega,by rw [e2];exact h.wd⟩
theorem cm_hash (T:Tr) (fr:Nat) (i:Int) (h:Gd T):((cmT T fr i).2.n=0∨(cmT T fr i).2.n=32)∧∀ j,(cmT T fr i).2.b j<256:=by
 refine ⟨?_,fun j=>spS_lt _ j⟩
 refine (spS_ok (ss:=besL T i) (TrOK.sub (F:=T.nd) h.ok delL_sub) filL_in (fun j hj => ?_) _ (Nat.le_refl _)).2
 have hl:j<(ksT (fr+1) (filL T i).length).length:=by rw [ksT_len];exact hj
 rw [keyA_at (List.getElem?_eq_getElem hl)]
 exact (ksT_32 _ _ _ (List.getElem_mem hl)).1
theorem LvI.step {T:Tr} {c:Nat} (h:LvI T c) (fr:Nat) (kd I:Int):LvI (lvS T fr kd I) (c+1):=by
 obtain ⟨-,-,w1,w2,w3⟩:=who_at h.gd h.ne I
 have hup:LvI T (c+1):=⟨h.gd,h.ne,by have:=h.cnt;omega,h.wd⟩
 unfold lvS
 by_cases k0:kd=0
 · rw [if_pos k0]
   by_cases e:fbL T.nd T.n=T.n∧T.n=64
   · rw [if_pos e];exact hup
   · rw [if_neg e]
     exact h.addT (by by_cases e1:fbL T.nd T.n=T.n;exact .inr (fun e2=>e ⟨e1,e2⟩);exact .inl e1) (lfM_R fr) (lfM_K fr)
 · rw [if_neg k0]
   by_cases k1:kd=1
   · rw [if_pos k1]
     by_cases e:1<(mbs T).length
     · rw [if_pos e];exact h.remT e _
     · rw [if_neg e];exact hup
   · rw [if_neg k1]
     by_cases k2:kd=2
     · rw [if_pos k2]
       refine h.same (h.gd.set ⟨w1,w2⟩ (lfU_R fr) (lfU_K fr)) (fun k hk => ?_)
       rw [delL_leaf (by omega)]
       unfold upn
       by_cases e:(2*(k:Int))=2*who T I
       · rw [if_pos e,e,w3];rfl
       · rw [if_neg e]
     · rw [if_neg k2]
       obtain ⟨c1,c2⟩:=cm_hash T fr (who T I) h.gd
       have hg:Gd (cmT T fr (who T I)).1:=h.gd.sp (by rw [ksT_len]) (fun t ht=>(ksT_32 _ _ t ht).1) (fun t ht=>(ksT_32 _ _ t ht).2)
       refine h.same (Gd.leaf (n:=T.n) (F:=(cmT T fr (who T I)).1.nd) hg ⟨w1,w2⟩ (lfC_R fr c1) (lfC_K fr c2)) (fun k hk => ?_)
       unfold upn
       by_cases e:(2*(k:Int))=2*who T I
       · rw [if_pos e,e,w3];rfl
       · rw [if_neg e]
         exact congrArg Option.isSome (spT_leaf (by omega))
theorem lv0_I:LvI (lvT [] 0) 1:=by
 refine ⟨Gd.add Gd.new (.inl (by rw [show fbL (⟨1,fun _=>none⟩:Tr).nd 1=0 from k0f];decide)) (lfM_R 0) (lfM_K 0),?_,?_,?_⟩
 · exact (show (mbs (addT kT0 (lfM 0))).length=1 by kernel_rfl) ▸ Nat.le_refl 1
 · exact (show (mbs (addT kT0 (lfM 0))).length=1 by kernel_rfl) ▸ Nat.le_refl 1
 · exact (show tooB (addT kT0 (lfM 0))=false by kernel_rfl)
theorem lvT_I (ss:List (Int × Int)):∀ k,LvI (lvT ss k) (k+1)
 | 0=>lv0_I
 | k+1=>(lvT_I ss k).step _ _ _
end Go.Proofs.YtddkbmnkbfciaaaGreatDoor
namespace Go.Proofs.YtddkbmnkbfciaaaGreatDoor
open Go.RowKit Go.Shelf
attribute [local go_sem] Oper.semAt_some
theorem ttL (w:World):(w.alloc (.cells #[.slice none 0 0,.slice none 0 0,.slice none 0 0,.int .i64 0,.slice none 0 0,.slice none 0 0] 54)).there w.heap.size 0 6:=(RW.fresh w [.slice none 0 0,.slice none 0 0,.slice none 0 0,.int .i64 0,.slice none 0 0,.slice none 0 0] 54).there
theorem hiL:(Tryz.prog.info? 54).map (·.size)=some 6:=iszL54 zLf.toArray rfl
end Go.Proofs.YtddkbmnkbfciaaaGreatDoor
namespace Go.Proofs.YtddkbmnkbfciaaaGreatDoor
open Go.RowKit
def OwnL (base:Nat) (w:World) (v:Value) (n:Nat) (pv:Nat→Value):Prop:=w.ownsRow base 29 1 v n ((List.range n).map pv)
theorem info_bytes:(Tryz.prog.info? 29).map (fun i=>(i.zero,i.size,i.bytes))=some (some (.slice none 0 0),1,24):=by kernel_rfl
theorem und_list:Tryz.prog.underlying 32=some (.slice 29):=by kernel_rfl
theorem OwnL.nil (base:Nat) (w:World) (pv:Nat→Value):OwnL base w (.slice none 0 0) 0 pv:=World.ownsRow_nil w base _ _
theorem OwnL.slice {base:Nat} {w:World} {v:Value} {n:Nat} {pv:Nat→Value} (h:OwnL base w v n pv):∃ x c,v = .slice x n c:=by
 rcases h.2 with ⟨rfl,rfl⟩ | ⟨g,cap,cur,rfl,_⟩
 · exact ⟨_,_,rfl⟩
 · exact ⟨_,_,rfl⟩
theorem wpList_append_piece {w:World} {ops:Array Oper} {rest:List Oper} {o:Oper} {a:Act} {Q:Exit→Act→World→Prop} (hgd:o.guard=none) (s x:Operand)
 (ho:o.op = .call { callee := .builtin .append,args:=#[s,x],argTypes:=#[32,32] }) (base:Nat)
 (v:Value) (n:Nat) (pv:Nat→Value) (u:Value) (hs:a.eval s=v) (hown:OwnL base w v n pv) (hx:a.eval x = .slice (some ⟨w.heap.size,0,none⟩) 1 1) (hu:u=pv n) (h1:u.oneCell'=true)
 (hl:n+1≤10000000) (hbase:base≤w.heap.size)
 (h:∀ v' w',OwnL base w' v' (n+1) pv→(w.alloc (.cells #[u] 29)).grownBy w' v.ownBlock→wpList Tryz.prog ops Q rest (a.put o.dst v') w'):wpList Tryz.prog ops Q (o :: rest) a (w.alloc (.cells #[u] 29)):=by
 obtain ⟨i0,hi,hz0,hz1,hz2⟩:=info_parts info_bytes
 refine wpList_append_own _ hgd s x 32 ho base 29 i0 (.slice none 0 0) 1 24 und_list hi hz0 hz1 hz2 rfl (by decide) v n _ hs (World.ownsRow.alloc hown _) ⟨w.heap.size,0,none⟩ 1 1 [u] hx rfl ?_ ?_ (by unfold maxLen;omega) (by omega) (by simp only [World.size_alloc];omega) (fun v' w' h2 h3 _=>h v' w' ?_ h3)
 · exact one_new w u _
 · intro y hy
   simp at hy
   subst hy
   exact h1
 · unfold OwnL
   rw [List.range_succ,List.map_append,List.map_cons,List.map_nil,←hu]
   exact h2
theorem own_apart {base base':Nat} {w:World} {p v:Value} {n m:Nat} {X:Nat→Nat} {pv:Nat→Value} (hp:Own base w p n X) (hv:OwnL base' w v m pv):p.ownBlock=none∨p.ownBlock≠v.ownBlock:=by
 rcases hp.2 with ⟨rfl,_⟩ | ⟨g,cap,cur,rfl,_,hg,_⟩
 · exact .inl rfl
 · right
   rcases hv.2 with ⟨rfl,_⟩ | ⟨g',cap',cur',rfl,_,hg',_⟩
   · intro e;cases e
   · intro e
     have e':g=g':=by simpa [Value.ownBlock] using e
     subst e'
     rw [hg] at hg'
     cases hg'
theorem own_out {base e:Nat} {w w':World} {v:Value} {n size:Nat} {xs:List Value} (h:w.ownsRow base e size v n xs) {b o k:Nat} (ho:Out b o k w w') (hb:b<base):w'.ownsRow base e size v n xs :=
 h.kept (row:=some b) ⟨ho.os,ho.tape,ho.output,ho.size,fun c hc hne=>ho.block c hc (fun e=>hne (by rw [e]))⟩ (by
  cases hv:v.ownBlock with
  | none=>exact .inl rfl
  | some c=>exact .inr (fun e=>by have:=(h.lt c hv).1;cases e;omega))
structure LsIn (base:Nat) (w:World) (v:Value) (n:Nat) (pv:Nat→Value) (pn:Nat→Nat) (pb:Nat→Nat→Nat):Prop where
 list:OwnL base w v n pv
 each:∀ i,i<n→Own base w (pv i) (pn i) (pb i)
theorem LsIn.below {base:Nat} {w w':World} {v:Value} {n:Nat} {pv:Nat→Value} {pn:Nat→Nat} {pb:Nat→Nat→Nat} (h:LsIn base w v n pv pn pb) (hb:Below w.heap.size w w'):LsIn base w' v n pv pn pb :=
 ⟨own_below h.list hb,fun i hi=>own_below (h.each i hi) hb⟩
theorem LsIn.out {base:Nat} {w w':World} {v:Value} {n:Nat} {pv:Nat→Value} {pn:Nat→Nat} {pb:Nat→Nat→Nat} (h:LsIn base w v n pv pn pb) {b o k:Nat} (ho:Out b o k w w') (hb:b<base):LsIn base w' v n pv pn pb :=
 ⟨own_out h.list ho hb,fun i hi=>own_out (h.each i hi) ho hb⟩
theorem LsIn.pieces {base:Nat} {w:World} {x:Option Addr} {n c:Nat} {pv:Nat→Value} {pn:Nat→Nat} {pb:Nat→Nat→Nat} (h:LsIn base w (.slice x n c) n pv pn pb) (lB:∀ i j,pb i j<256):PiecesIn w x n pv pn pb:=by
 refine ⟨fun q hq => ?_,fun i hi=>BytesIn.of_own (h.each i hi),lB⟩
 rcases h.list.2 with ⟨_,e⟩ | ⟨g,cap,cur,e,_⟩
 · omega
 · cases e
   refine ⟨g,0,rfl,fun i hi => ?_⟩
   rw [Nat.zero_add]
   have:=World.ownsRow.cellAt h.list i (by omega)
   rw [this]
   simp [hi]
theorem LsIn.next {base:Nat} {w w1 w':World} {v v':Value} {n:Nat} {pv pv':Nat→Value} {pn:Nat→Nat} {pb:Nat→Nat→Nat} (h:LsIn base w v n pv pn pb) (e:∀ i,i<n→pv' i=pv i) (hn:Own base w (pv' n) (pn n) (pb n)) (hb:Below w.heap.size w w1) (hl:OwnL base w' v' (n+1) pv') (hg:w1.grownBy w' v.ownBlock):LsIn base w' v' (n+1) pv' pn pb:=by
 refine ⟨hl,fun i hi => ?_⟩
 have hL:=own_below h.list hb
 by_cases e':i=n
 · subst e'
   exact World.ownsRow.kept (own_below hn hb) hg (own_apart (own_below hn hb) hL)
 · rw [e i (by omega)]
   have:=own_below (h.each i (by omega)) hb
   exact World.ownsRow.kept this hg (own_apart this hL)
end Go.Proofs.YtddkbmnkbfciaaaGreatDoor
namespace Go.Proofs.YtddkbmnkbfciaaaGreatDoor
open Go.RowKit Go.Shelf
theorem tAdd_yes (ok:Nat→Prop) (tb mb:Nat) (T:Tr) (hK:TrOK T) (cs:List Value) (d:LfD) (w:World) (hT:DbT w) (h:TrAt ok w tb mb T) (hd:LfIn w cs d) (hR:lfR d 3) (hf:fbL T.nd T.n≠T.n∨T.n≠64) :
 Calls Tryz.prog 31 #[pA tb 0,.agg cs.toArray] w fun e w'=>e = .returned (.tuple #[.int .i64 (fbL T.nd T.n:Int),.int .i64 0])∧TrAt (fun b=>ok b∨w.heap.size≤b) w' tb mb (addT T d)∧But (fun j=>j=mb∨j=tb) w w':=by
 by_cases e:fbL T.nd T.n=T.n
 · exact add_wide ok tb mb T hK cs d w hT h hd hR e (by rcases hf with h | h;exact absurd e h;exact h)
 · exact add_near ok tb mb T hK cs d w hT h hd hR e
theorem ksT_at (fr:Nat):∀ n j,j<n→(ksT fr n)[j]? = some ⟨32,keyB (1000000+50*fr+j)⟩
 | 0,_,h=>absurd h (Nat.not_lt_zero _)
 | n+1,j,h=>by
  unfold ksT
  by_cases e:j<n
  · rw [List.getElem?_append_left (by rw [ksT_len];exact e)]
    exact ksT_at fr n j e
  · have:j=n:=by omega
    subst this
    rw [List.getElem?_append_right (by rw [ksT_len];omega),ksT_len,Nat.sub_self];rfl
theorem keys_of {base:Nat} {w:World} {v:Value} {n fr:Nat} {pv:Nat→Value} (h:LsIn base w v n pv (fun _=>32) (fun q=>keyB (1000000+50*fr+q))):KeysO (fun _=>True) w v (ksT fr n):=by
 obtain ⟨x,c,rfl⟩:=h.list.slice
 have hP:=h.pieces (fun i j=>s256_lt _ _ j)
 have hc:n≤c:=by
  rcases h.list.2 with ⟨e,h0⟩ | ⟨g,cap,cur,e,-,-,hn,-⟩
  · omega
  · cases e;exact hn
 refine ⟨x,c,by rw [ksT_len],by rw [ksT_len];exact hc,fun j t ht => ?_⟩
 have hj:j<n:=by have:=(List.getElem?_eq_some_iff.1 ht).1;rwa [ksT_len] at this
 rw [ksT_at fr n j hj] at ht
 cases ht
 obtain ⟨g,o,e,hcl⟩:=hP.cell j hj
 exact ⟨g,o,pv j,e,trivial,block_lt_of_cell (hcl j hj),hcl j hj,BO.all (hP.each j hj)⟩
theorem LfIn.one {w:World} {cs:List Value} {d:LfD} (h:LfIn w cs d):cs.toArray.all (·.oneCell')=true:=h.row.2
theorem box_leaf (w:World) {cs:List Value} (hl:cs.length=6) {W:World} (hW:W=(w.alloc (.cells #[.slice none 0 0,.slice none 0 0,.slice none 0 0,.int .i64 0,.slice none 0 0,.slice none 0 0] 54)).setCells w.heap.size 0 cs):RW W w.heap.size 0 cs∧Below w.heap.size w W:=by
 rw [hW]
 exact ⟨(RW.fresh w [.slice none 0 0,.slice none 0 0,.slice none 0 0,.int .i64 0,.slice none 0 0,.slice none 0 0] 54).stored cs (by rw [hl];rfl),below_setCells (Nat.le_refl _) _ _ _ ((Below.refl _ _).alloc (Nat.le_refl _) _)⟩
theorem leaf_forms {w:World} {cs:List Value} {n:Nat} (h:LfIn w cs (lfM n)):∃ v0 v1 v2 v4 v5,cs=[v0,v1,v2,.int .i64 1,v4,v5]:=by
 obtain ⟨v0,v1,v2,v4,v5,rfl,-⟩:=h
 exact ⟨v0,v1,v2,v4,v5,rfl⟩
theorem leaf_upd {w W:World} {v0 v1 v2 v4 v5:Value} {n:Nat} (h:LfIn w [v0,v1,v2,.int .i64 1,v4,v5] (lfM n)) (hb:Below w.heap.size w W):LfIn W [v0,v1,v2,.int .i64 2,v4,v5] (lfU n):=by
 obtain ⟨u0,u1,u2,u4,u5,e,h0,h1,h2,h4,h5⟩:=h.keep hb
 cases e
 exact ⟨v0,v1,v2,v4,v5,rfl,h0,h1,h2,h4,h5⟩
theorem leaf_com {W:World} {v0 v1 v2 v4 v5 hv:Value} {n:Nat} {t:Tx} (h:LfIn W [v0,v1,v2,.int .i64 1,v4,v5] (lfM n)) (ht:BytesIn W hv t.n t.b):LfIn W [v0,v1,v2,.int .i64 3,hv,v5] (lfC n t):=by
 obtain ⟨u0,u1,u2,u4,u5,e,h0,h1,h2,h4,h5⟩:=h
 cases e
 exact ⟨v0,v1,v2,hv,v5,rfl,h0,h1,h2,ht,h5⟩
theorem RW.setAt {w:World} {g o:Nat} {cs:List Value} (h:RW w g o cs) (i:Nat) (hi:i<cs.length) (v:Value):RW (w.setCell ⟨g,o+i,none⟩ v) g o (cs.set i v):=by
 have hc:∃ u,w.cell? ⟨g,o+i,none⟩=some u:=⟨_,h.range i _ (List.getElem?_eq_getElem hi)⟩
 obtain ⟨u,hu⟩:=hc
 refine ⟨fun j x hx => ?_,fun j hj => ?_,by rw [World.size_setCell];exact h.lt⟩
 · by_cases e:j=i
   · subst e
     rw [World.cell?_setCell_same _ _ _ hu]
     rw [List.getElem?_set_self hi] at hx
     exact hx
   · rw [World.cell?_setCell_other _ _ _ _ (fun h=>by injection h;omega)]
     rw [List.getElem?_set_ne (Ne.symm e)] at hx
     exact h.range j x hx
 · rw [List.length_set] at hj
   have h1:=h.there j hj
   rw [World.frozen?_setCell]
   refine ⟨?_,h1.2⟩
   by_cases e:j=i
   · subst e;rw [World.cell?_setCell_same _ _ _ hu];rfl
   · rw [World.cell?_setCell_other _ _ _ _ (fun h=>by injection h;omega)];exact h1.1
theorem BytesIn.but6 {bad:Nat→Prop} {w w':World} {v:Value} {n:Nat} {bs:Nat→Nat} (h:BytesIn w v n bs) (hb:But bad w w') (hno:∀ b,bad b→∀ o,w.cell? ⟨b,o,none⟩=none):BytesIn w' v n bs:=by
 rcases h with h | ⟨bb,ob,cap,h1,h2,h3,h4⟩
 · exact .inl h
 · refine .inr ⟨bb,ob,cap,h1,Nat.lt_of_lt_of_le h2 hb.size,h3,fun j hj => ?_⟩
   have h5:=h4 j hj
   exact (World.cell?_of_block (w:=w) (a:=⟨bb,ob+j,none⟩) (hb.block bb h2 (fun e=>by rw [hno bb e] at h5;cases h5))).trans h5
theorem LfIn.but6 {bad:Nat→Prop} {w w':World} {cs:List Value} {d:LfD} (h:LfIn w cs d) (hb:But bad w w') (hno:∀ b,bad b→∀ o,w.cell? ⟨b,o,none⟩=none):LfIn w' cs d:=by
 obtain ⟨v0,v1,v2,v4,v5,e,h0,h1,h2,h4,h5⟩:=h
 exact ⟨v0,v1,v2,v4,v5,e,h0.but6 hb hno,h1.but6 hb hno,h2.but6 hb hno,h4.but6 hb hno,h5.but6 hb hno⟩
theorem BytesIn.set6 {w:World} {v:Value} {n:Nat} {bs:Nat→Nat} (h:BytesIn w v n bs) {g o:Nat} {u:Value} (hc:w.cell? ⟨g,o,none⟩=some u) (hu:∀ z,u ≠ .int .u8 z) (x:Value):BytesIn (w.setCell ⟨g,o,none⟩ x) v n bs :=
 ((BI.all h).put hc hu x).of (by simp)
theorem LfIn.set6 {w:World} {cs:List Value} {d:LfD} (h:LfIn w cs d) {g o:Nat} {u:Value} (hc:w.cell? ⟨g,o,none⟩=some u) (hu:∀ z,u ≠ .int .u8 z) (x:Value):LfIn (w.setCell ⟨g,o,none⟩ x) cs d:=by
 obtain ⟨v0,v1,v2,v4,v5,e,h0,h1,h2,h4,h5⟩:=h
 exact ⟨v0,v1,v2,v4,v5,e,h0.set6 hc hu x,h1.set6 hc hu x,h2.set6 hc hu x,h4.set6 hc hu x,h5.set6 hc hu x⟩
theorem leaf_no4 {w:World} {v0 v1 v2 v4 v5:Value} {n:Nat} (h:LfIn w [v0,v1,v2,.int .i64 1,v4,v5] (lfM n)):∀ z,v4 ≠ .int .u8 z:=by
 obtain ⟨u0,u1,u2,u4,u5,e,h0,h1,h2,h4,h5⟩:=h
 cases e
 obtain ⟨x,c,rfl,-⟩:=h4.src
 intro z e;cases e
def putK (pv:Nat→Value) (n:Nat) (u:Value):Nat→Value:=fun i=>if i=n then u else pv i
theorem putK_same (pv:Nat→Value) (n:Nat) (u:Value):u=putK pv n u n:=by unfold putK;rw [if_pos rfl]
theorem putK_old (pv:Nat→Value) (n:Nat) (u:Value) {i:Nat} (h:i<n):putK pv n u i=pv i:=by unfold putK;rw [if_neg (by omega)]
theorem OwnL.congrK {base:Nat} {w:World} {v:Value} {n:Nat} {pv pv':Nat→Value} (h:OwnL base w v n pv) (e:∀ i,i<n→pv i=pv' i):OwnL base w v n pv':=by
 unfold OwnL at *
 rw [show (List.range n).map pv'=(List.range n).map pv from List.map_congr_left (fun i hi=>(e i (List.mem_range.1 hi)).symm)]
 exact h
theorem sz6 (v0 v1 v2 v3 v4 v5:Value):(Tryz.prog.info? 54).map (·.size)=some #[v0,v1,v2,v3,v4,v5].size:=hiL
end Go.Proofs.YtddkbmnkbfciaaaGreatDoor
