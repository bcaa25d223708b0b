/- What the proof stands on: D1RB, ZAb2, D1RR, D1RN, D1CB, D1CE5, D1Pcs, D1CF, D1CK, D1RJ. -/
import Derived.Test.YtibdhadbflfdpaaGreatDoorLentM
import Derived.Test.YtibdhadbflfdpaaGreatDoorQAppM
import Derived.Laws.BitsAllLaws
namespace Go.Proofs.YtibdhadbflfdpaaGreatDoor
open Nat renaming le_refl → JW
open Go.RowKit
set_option maxRecDepth 20000 in
set_option maxHeartbeats 4000000 in
theorem sl (n s:Nat) (hs:s≤8) (w:World) :
 Calls Tryz.prog 217 #[.int .i64 n,.int .i64 s] w fun e w'=>∃ v,e = .returned v∧bx w.heap.size w' v s (vz n s)∧Below w.heap.size w w':=by
 have e0:IntKind.i64.wrap ((s:Int) - 1)=(s:Int) - 1:=by simp only [IntKind.wrap_i64];omega
 go_enter Tryz.func217,Tryz.ntmps217;go_wp2;go_loopw [5,6] (fun o i wr=>∃ k:Nat,k≤s∧i = .int .i64 ((s:Int) - 1 - (k:Int))∧(∃ xo co,o = .slice xo k co∧bx w.heap.size wr (.slice xo k co) k (vz n s))∧Below w.heap.size w wr) (fun _ i _=>(intOf i+1).toNat)
 case atStart=>exact ⟨0,Nat.zero_le _,by go_num,⟨none,0,rfl,bx.nil _ _ _⟩,Below.refl _ _⟩
 case round =>
  obtain ⟨k,hk,rfl,⟨xo,co,rfl,own⟩,hb⟩:=hrel
  by_cases hlt:k<s
  · obtain ⟨q,hq⟩:∃ q:Nat,(s:Int) - 1 - (k:Int)=(q:Int):=⟨s - 1 - k,by omega⟩
    rw [hq]
    obtain ⟨sh,hsh⟩:∃ sh,sh=8*q:=⟨_,rfl⟩
    have e1:IntKind.u8.wrap ((n:Int) / 2 ^ sh)=((vz n s k:Nat):Int):=by
     unfold vz;rw [show s - 1 - k=q by omega,←hsh];show (n:Int) / 2 ^ sh%256=_;simp
    have e3:8*(q:Int)=(sh:Int):=by omega
    have e3':IntKind.i64.wrap (8*(q:Int))=(sh:Int):=by simp only [IntKind.wrap_i64];omega
    have e4:IntKind.u64.wrap (sh:Int)=(sh:Int):=by show (sh:Int)%18446744073709551616=_;omega
    have t2:(0:Int)≤(sh:Int)∧(sh:Int)<64:=by omega
    have t3:(0:Int)≤(q:Int):=by omega
    have Hq:=Hid.mk' hq
    have F:=fun j=>vz n s j
    obtain ⟨y,hy⟩:∃ y:Int,y=((vz n s k:Nat):Int):=⟨_,rfl⟩
    rw [←hy] at e1;have Hy:=Hid.mk' hy;clear hq hsh hy F;go_wp2_with (at_builtin;refine bq rfl (.tmp 13) (.tmp 20) rfl w.heap.size _ k (vz n s) y rfl own rfl Hy.out (by omega) hb.size ?_;intro v7 w7 own7 hb7;(obtain ⟨x7,c7,hv7⟩:=own7.slice);subst hv7);go_roundw
    case rel=>exact ⟨k+1,hlt,congrArg (Value.int .i64) (by have:=Hq.out;omega),⟨x7,c7,rfl,own7⟩,hb.trans hb7⟩
    case measure=>simp [intOf]
  · obtain rfl:k=s:=by omega
    have t3:¬((0:Int)≤(k:Int) - 1 - (k:Int)):=by omega
    go_wp2;go_ret;exact ⟨_,rfl,own,hb⟩
theorem zm {s:Int} (h:IG s=true):s=1∨s=2∨s=4∨s=8:=by
 unfold IG at h
 simpa [or_assoc] using h
theorem vG (n:Nat) (hn:n<1073741824) (w:World):Calls Tryz.prog 171 #[.int .i64 n] w fun e w'=>∃ v,e = .returned (.tuple #[v,.int .i64 0])∧bx w.heap.size w' v (nD n) (Iy n)∧Below w.heap.size w w':=by
 have c:=sl (yt n) (nD n) (by have:=nv n;omega) w
 have h0:¬((n:Int)<0):=by omega
 have h1:¬((1073741824:Int)≤(n:Int)):=by omega
 unfold Iy
 by_cases h2:n<64
 · have e1:yt n=n:=by unfold yt;rw [if_pos h2]
   have e2:nD n=1:=by unfold nD;rw [if_pos h2]
   have h2':(n:Int)<64:=by omega
   rw [e1,e2] at c ⊢;go_enter Tryz.func171,Tryz.ntmps171;go_wp2_with (go_at_call 217;refine c.mono ?_;clear c;rintro e w1 ⟨v1,rfl,own1,b1⟩);go_ret2;exact ⟨_,rfl,own1,b1⟩
 · have h2':¬((n:Int)<64):=by omega
   by_cases h3:n<16384
   · have e1:yt n=n+16384:=by unfold yt;rw [if_neg h2,if_pos h3]
     have e2:nD n=2:=by unfold nD;rw [if_neg h2,if_pos h3]
     have h3':(n:Int)<16384:=by omega
     have e3:((n+16384:Nat):Int)=(n:Int)+16384:=by omega
     have e4:IntKind.i64.wrap ((n:Int)+16384)=(n:Int)+16384:=by simp only [IntKind.wrap_i64];omega
     rw [e1,e2] at c ⊢;rw [e3] at c;generalize n+16384=q at *;go_enter Tryz.func171,Tryz.ntmps171;go_wp2_with (go_at_call 217;refine c.mono ?_;clear c;rintro e w1 ⟨v1,rfl,own1,b1⟩);go_ret2;exact ⟨_,rfl,own1,b1⟩
   · have e1:yt n=n+2147483648:=by unfold yt;rw [if_neg h2,if_neg h3]
     have e2:nD n=4:=by unfold nD;rw [if_neg h2,if_neg h3]
     have h3':¬((n:Int)<16384):=by omega
     have e3:((n+2147483648:Nat):Int)=(n:Int)+2147483648:=by omega
     have e4:IntKind.i64.wrap ((n:Int)+2147483648)=(n:Int)+2147483648:=by simp only [IntKind.wrap_i64];omega
     rw [e1,e2] at c ⊢;rw [e3] at c;generalize n+2147483648=q at *;go_enter Tryz.func171,Tryz.ntmps171;go_wp2_with (go_at_call 217;refine c.mono ?_;clear c;rintro e w1 ⟨v1,rfl,own1,b1⟩);go_ret2;exact ⟨_,rfl,own1,b1⟩
theorem vC (v:Value) (n:Nat) (b:Nat→Nat) (hn:n≤65536) (w:World) (hv:ae w v n b):Calls Tryz.prog 108 #[v] w fun e w'=>∃ s,e = .returned (.tuple #[s,.int .i64 0])∧bx w.heap.size w' s (yW n) (DK n b)∧Below w.heap.size w w':=by
 obtain ⟨x1,c1,rfl,hxn,-,hsrc⟩:=hv.src
 have h1:¬((65536:Int)<(n:Int)):=by omega
 have c:=vG n (by omega) w;have hp:=nv n;unfold yW DK;generalize nD n=s at *;generalize Iy n=B at *;clear hv;go_enter Tryz.func108,Tryz.ntmps108
 go_wp2_with (first
  | (go_at_call 171;refine c.mono ?_;clear c;rintro e w1 ⟨v1,rfl,own1,b1⟩;(have hs:=hsrc w1 b1);(obtain ⟨y1,d1,e1⟩:=own1.slice);subst e1)
  | (at_builtin;refine aR rfl (.tmp 15) (.tmp 16) rfl w.heap.size _ s B rfl own1 x1 n c1 b rfl hs hxn (by omega) b1.size ?_;intro v2 w2 own2 g2;(have b2:=bx.grown b1 g2 own1 (JW _) b1.size)))
 go_ret2;exact ⟨_,rfl,own2,b2⟩
abbrev jD (n:Nat):Edge:={ on:=n,ground:=Ground.data }
abbrev jC (n:Nat):Edge:={ on:=n,ground:=Ground.chain }
abbrev jP (n:Nat):Edge:={ on:=n,ground:=Ground.phase }
abbrev jT (n:Nat):Edge:={ on:=n,ground:=Ground.textOnly Departure.lateStores }
abbrev jU (n:Nat):Edge:={ on:=n,ground:=Ground.textOnly Departure.lateStoresUnsure }
abbrev oN (d:Nat) (o:Op) (t:TypeId) (p:String) (a:Array Edge):Oper:={ dst:=some d,op:=o,type:=t,pos:=p,after:=a,guard:=none }
abbrev oS (o:Op) (p:String) (a:Array Edge):Oper:={ dst:=none,op:=o,type:=0,pos:=p,after:=a,guard:=none }
abbrev dA (f:FuncId) (a:Array Operand) (t:Array TypeId):Op:=Op.call { callee:=Callee.value (Operand.func f),args:=a,argTypes:=t }
abbrev oT (k:Nat):Operand:=Operand.tmp k
abbrev pA (g o:Nat):Value := .pointer (some ⟨g,o,none⟩)
theorem pS:(∀ (a:Act) (d:Nat) (v:Value),a.put (some d) v={ a with tmps:=a.tmps.setIfInBounds d v })∧(∀ (l:List Value) (i:Nat) (v:Value),l.toArray.setIfInBounds i v=(l.set i v).toArray)∧(∀ (x:Value) (l:List Value) (v:Value),(x :: l).set 0 v=v :: l)∧(∀ (x:Value) (l:List Value) (n:Nat) (v:Value),(x :: l).set (n+1) v=x :: l.set n v) :=
 ⟨fun _ _ _=>rfl,fun _ _ _=>List.setIfInBounds_toArray ..,fun _ _ _=>rfl,fun _ _ _ _=>rfl⟩
section
variable {P:Program} {md:Region.Mode} {ops:Array Oper} {Q:Exit→Act→World→Prop} {S:World→Prop} {fuel:Nat} {listed:Array Bool} {a:Act} {w:World}
theorem yu (i:Nat) (oi:Oper) (v:Value) (hS:S w) (hy:YieldsIf P ops S oi v a)
 (h:wpAnyH P md ops Q S fuel (listed.setIfInBounds i true) (a.put oi.dst v) w) (hQ:∀ c a w,Q (.panic c) (a.put oi.dst v) w→Q (.panic c) a w:=by exact fun _ _ _ h=>h) (hi:ops[i]? = some oi:=by rfl) (hs:Region.noSelect ops=true:=by kernel_rfl) (hf:Region.free md ops listed i=true:=by kernel_rfl) (hr:(Region.ready md ops listed).contains i=true:=by kernel_rfl):wpAnyH P md ops Q S (fuel+1) listed a w :=
 wpAnyH_take hi hs hf hr hQ hy hS h
theorem bR {w:World}:Below w.heap.size w w:=Below.refl _ _
theorem yR {o:Oper} {v:Value} (hw:Region.wanted o (yielded ops a.tmps)=true:=by rfl) (hr:∀ w,(execOp a.eval o).run P w = .ok (.value v) w:=by intro _;kernel_rfl):YieldsIf P ops S o v a := .inl ⟨hw,fun w _=>hr w⟩
theorem dz {g o k:Nat} {cs:List Value} (r:RW w g o cs) (h:w.heap.size≤k):g≠k:=Nat.ne_of_lt (Nat.lt_of_lt_of_le r.lt h)
theorem dG {g o k:Nat} {cs:List Value} (r:RW w g o cs) (h:w.heap.size≤k):k≠g:=(dz r h).symm
theorem d9 {V:World} {o:Oper} {g off:Nat} {cs:List Value} (h:RW V g off cs) (ty k:Nat) {d:TypeDesc} (hu:P.underlying ty=some d) (hi:(P.info? ty).map (·.size)=some cs.length) (hd:d.isRow=true:=by rfl) (hw:Region.wanted o (yielded ops a.tmps)=true:=by rfl) (ho:o.op = .load ty (.tmp k):=by rfl) (hx:a.eval (.tmp k) = .pointer (some ⟨g,off,none⟩):=by rfl):YieldsIf P ops (fun w'=>Below V.heap.size V w') o (.agg cs.toArray) a :=
 yieldsIf_load_mid hw ty _ ho g off hx cs d (fun _ hb=>(h.still hb).range) hu hd hi
theorem gQ {V:World} {o:Oper} {g off b p n:Nat} {cs:List Value} (h:RW V g off cs) (hne:g≠b) (ty k:Nat) {d:TypeDesc} (hu:P.underlying ty=some d) (hi:(P.info? ty).map (·.size)=some cs.length) (hd:d.isRow=true:=by rfl) (hw:Region.wanted o (yielded ops a.tmps)=true:=by rfl) (ho:o.op = .load ty (.tmp k):=by rfl) (hx:a.eval (.tmp k) = .pointer (some ⟨g,off,none⟩):=by rfl):YieldsIf P ops (fun w'=>aT b p n V w') o (.agg cs.toArray) a :=
 yieldsIf_load_mid hw ty _ ho g off hx cs d (fun _ hb=>(h.out hb hne).range) hu hd hi
theorem dr {i:Nat} {rs:List Nat} (oi:Oper) {f:FuncId} {args:Array Value} {R:Ending→World→Prop} (c:Calls P f args w R) (h:∀ e w',R e w'→∃ r,e = .returned r∧S w'∧wpAnyH P md ops Q S fuel (listed.setIfInBounds i true) (a.put oi.dst r) w') (hs:AllReadyH P md ops Q S fuel listed a w rs)
 (hi:ops[i]? = some oi:=by rfl) (hw:Region.wanted oi (yielded ops a.tmps)=true:=by rfl) (hrun:(execOp a.eval oi).run P w = .ok (.enter f args) w:=by kernel_rfl):AllReadyH P md ops Q S fuel listed a w (i :: rs):=by
 refine AllReadyH.cons hi (fun K hK => ?_) hs;rw [if_pos hw];unfold Oper.wp;rw [hrun,Oper.upon_enter]
 refine c.mono fun e w' hR => ?_
 obtain ⟨r,rfl,hS,hk⟩:=h e w' hR;exact hK.out _ _ hS (fun _=>hk)
theorem Fn (i:Nat) (oi:Oper) {f:FuncId} {args:Array Value} {R:Ending→World→Prop} (c:Calls P f args w R) (h:∀ e w',R e w'→∃ r,e = .returned r∧S w'∧wpAnyH P md ops Q S fuel (listed.setIfInBounds i true) (a.put oi.dst r) w')
 (hr:Region.ready md ops listed=[i]:=by kernel_rfl) (hi:ops[i]? = some oi:=by rfl) (hw:Region.wanted oi (yielded ops a.tmps)=true:=by rfl) (hrun:(execOp a.eval oi).run P w = .ok (.enter f args) w:=by kernel_rfl):wpAnyH P md ops Q S (fuel+1) listed a w :=
 wpAnyH_ready hr (by simp) (dr oi c h AllReadyH.nil hi hw hrun)
theorem IH (i:Nat) (oi:Oper) {f:FuncId} {args:Array Value} {R:Ending→World→Prop} (c:Calls P f args w R) (h:∀ e w',R e w'→∃ r,e = .returned r∧Below w.heap.size w w'∧wpAnyH P md ops Q (fun u=>Below w'.heap.size w' u) fuel (listed.setIfInBounds i true) (a.put oi.dst r) w')
 (hr:Region.ready md ops listed=[i]:=by kernel_rfl) (hi:ops[i]? = some oi:=by rfl) (hw:Region.wanted oi (yielded ops a.tmps)=true:=by rfl) (hrun:(execOp a.eval oi).run P w = .ok (.enter f args) w:=by kernel_rfl):wpAnyH P md ops Q (fun u=>Below w.heap.size w u) (fuel+1) listed a w :=
 Fn i oi c (fun e w' hR=>by
  obtain ⟨r,he,hb,hk⟩:=h e w' hR
  exact ⟨r,he,hb,eU (fun _ hu=>aa hb hu) _ _ _ _ hk⟩) hr hi hw hrun
theorem GM {i:Nat} {rs:List Nat} (oi:Oper) {cs:Array Value} {t:TypeId} (h:S (w.alloc (.cells cs t))∧wpAnyH P md ops Q S fuel (listed.setIfInBounds i true) (a.put oi.dst (pA w.heap.size 0)) (w.alloc (.cells cs t))) (hs:AllReadyH P md ops Q S fuel listed a w rs)
 (hrun:(execOp a.eval oi).run P w = .ok (.value (pA w.heap.size 0)) (w.alloc (.cells cs t)):=by kernel_rfl) (hi:ops[i]? = some oi:=by rfl) (hw:Region.wanted oi (yielded ops a.tmps)=true:=by rfl):AllReadyH P md ops Q S fuel listed a w (i :: rs):=by
 refine AllReadyH.cons hi (fun K hK => ?_) hs;rw [if_pos hw];unfold Oper.wp;rw [hrun,Oper.upon_value];exact hK.out _ _ h.1 (fun _=>h.2)
theorem iQ (h:∀ G:Nat→Array Bool→Act→World→Prop,G=wpAnyH P md ops Q S→G fuel listed a w):wpAnyH P md ops Q S fuel listed a w:=h _ rfl
theorem ar {G:Nat→Array Bool→Act→World→Prop} (hG:Hid (G=wpAnyH P md ops Q S)) {f:Nat} {l:Array Bool} {b:Act} (h:G f l b w) (hb:b=a) (hf:f=fuel:=by kernel_rfl) (hl:l=listed:=by kernel_rfl):wpAnyH P md ops Q S fuel listed a w:=by
 subst hf;subst hl;subst hb;rw [←hG.out];exact h
theorem kD {i:Nat} {oi:Oper} (hi:ops.toList[i]? = some oi):ops[i]? = some oi:=by rw [←Array.getElem?_toList];exact hi
theorem tg (i:Nat) (hS:S w) {oi:Oper} {v:Value} (h:wpAnyH P md ops Q S fuel (listed.setIfInBounds i true) (a.put oi.dst v) w) (hi:ops.toList[i]? = some oi:=by rfl)
 (hy:∀ w,S w→(execOp a.eval oi).run P w = .ok (.value v) w:=by intro w hSw;go_simp;try with_reducible rfl) (hw:Region.wanted oi (yielded ops a.tmps)=true:=by rfl)
 (hQ:∀ c b w,Q (.panic c) (b.put oi.dst v) w→Q (.panic c) b w:=by exact fun _ _ _ h=>h) (hs:Region.noSelect ops=true:=by kernel_rfl) (hf:Region.free md ops listed i=true:=by kernel_rfl) (hr:(Region.ready md ops listed).contains i=true:=by kernel_rfl):wpAnyH P md ops Q S (fuel+1) listed a w :=
 yu i oi v hS (.inl ⟨hw,hy⟩) h hQ (kD hi) hs hf hr
theorem tl (i:Nat) {V:World} {oi:Oper} {g off k:Nat} {cs:List Value} (r:RW V g off cs) (hS:Below V.heap.size V w) (ty:Nat) {d:TypeDesc} (hu:P.underlying ty=some d) (hin:(P.info? ty).map (·.size)=some cs.length)
 (h:wpAnyH P md ops Q (fun u=>Below V.heap.size V u) fuel (listed.setIfInBounds i true) (a.put oi.dst (.agg cs.toArray)) w) (hi:ops.toList[i]? = some oi:=by rfl) (ho:oi.op = .load ty (.tmp k):=by rfl)
 (hd:d.isRow=true:=by rfl) (hw:Region.wanted oi (yielded ops a.tmps)=true:=by rfl) (hx:a.eval (.tmp k) = .pointer (some ⟨g,off,none⟩):=by rfl)
 (hQ:∀ c b w,Q (.panic c) (b.put oi.dst (.agg cs.toArray)) w→Q (.panic c) b w:=by exact fun _ _ _ h=>h) (hs:Region.noSelect ops=true:=by kernel_rfl) (hf:Region.free md ops listed i=true:=by kernel_rfl) (hr:(Region.ready md ops listed).contains i=true:=by kernel_rfl):wpAnyH P md ops Q (fun u=>Below V.heap.size V u) (fuel+1) listed a w :=
 yu i oi _ hS (d9 r ty k hu hin hd hw ho hx) h hQ (kD hi) hs hf hr
theorem cl (i:Nat) {oi:Oper} {f:FuncId} {args:Array Value} {R:Ending→World→Prop} (c:Calls P f args w R) (h:∀ e w',R e w'→∃ r,e = .returned r∧S w'∧wpAnyH P md ops Q S fuel (listed.setIfInBounds i true) (a.put oi.dst r) w')
 (hi:ops.toList[i]? = some oi:=by rfl) (hr:Region.ready md ops listed=[i]:=by kernel_rfl) (hw:Region.wanted oi (yielded ops a.tmps)=true:=by rfl) (hrun:(execOp a.eval oi).run P w = .ok (.enter f args) w:=by kernel_rfl):wpAnyH P md ops Q S (fuel+1) listed a w :=
 Fn i oi c h hr (kD hi) hw hrun
theorem cn (i:Nat) {oi:Oper} {f:FuncId} {args:Array Value} {R:Ending→World→Prop} (c:Calls P f args w R) (h:∀ e w',R e w'→∃ r,e = .returned r∧Below w.heap.size w w'∧wpAnyH P md ops Q (fun u=>Below w'.heap.size w' u) fuel (listed.setIfInBounds i true) (a.put oi.dst r) w')
 (hi:ops.toList[i]? = some oi:=by rfl) (hr:Region.ready md ops listed=[i]:=by kernel_rfl) (hw:Region.wanted oi (yielded ops a.tmps)=true:=by rfl) (hrun:(execOp a.eval oi).run P w = .ok (.enter f args) w:=by kernel_rfl):wpAnyH P md ops Q (fun u=>Below w.heap.size w u) (fuel+1) listed a w :=
 IH i oi c h hr (kD hi) hw hrun
theorem tk (i:Nat) (v:Value) (hS:S w) {oi:Oper} (hi:ops.toList[i]? = some oi:=by rfl) (hy:YieldsIf P ops S oi v a) (h:wpAnyH P md ops Q S fuel (listed.setIfInBounds i true) (a.put oi.dst v) w)
 (hQ:∀ c b w,Q (.panic c) (b.put oi.dst v) w→Q (.panic c) b w:=by exact fun _ _ _ h=>h) (hs:Region.noSelect ops=true:=by kernel_rfl) (hf:Region.free md ops listed i=true:=by kernel_rfl) (hr:(Region.ready md ops listed).contains i=true:=by kernel_rfl):wpAnyH P md ops Q S (fuel+1) listed a w :=
 yu i oi v hS hy h hQ (kD hi) hs hf hr
end
def Jf (w:World) (g L:Nat) (B:Nat→Nat) (r:Rd):Prop:=∃ v,RW w g 0 [v,.int .i64 (r.at_:Int),.int .i64 r.e]∧ae w v L B∧r.at_≤L
theorem Jf.keep {w w':World} {g L:Nat} {B:Nat→Nat} {r:Rd} (h:Jf w g L B r) (hb:Below w.heap.size w w'):Jf w' g L B r:=by
 obtain ⟨v,rw_,hv,ha⟩:=h;exact ⟨v,rw_.still hb,hv.keep hb,ha⟩
theorem Jf.lt {w:World} {g L:Nat} {B:Nat→Nat} {r:Rd} (h:Jf w g L B r):g<w.heap.size:=by
 obtain ⟨_,r,_⟩:=h;exact r.lt
theorem jO (a b:Nat) (ha:a<9223372036854775808) (hb:b<9223372036854775808):bits .or .i64 (a:Int) (b:Int)=((a ||| b:Nat):Int):=by
 have hx:a ||| b<2 ^ 63:=Nat.or_lt_two_pow (by omega) (by omega)
 show IntKind.i64.wrap ((BitVec.ofInt 64 (a:Int) ||| BitVec.ofInt 64 (b:Int)).toNat:Int)=_;rw [BitVec.toNat_or,show (BitVec.ofInt 64 (a:Int)).toNat=a by simp;omega,show (BitVec.ofInt 64 (b:Int)).toNat=b by simp;omega];simp only [IntKind.wrap_i64];omega
def Gt (n:Int):Nat:=if n / 2 ^ 6=0 then 0 else if n / 2 ^ 14=0 then 1 else if n / 2 ^ 30=0 then 2 else 3
theorem rH (n:Int) (k:Nat) (hk:k<3) (h:n / 2 ^ G0 k=0) (hl:∀ q,q<k→¬n / 2 ^ G0 q=0):Gt n=k:=by
 unfold Gt
 rcases (show k=0∨k=1∨k=2 by omega) with rfl | rfl | rfl
 · exact if_pos h
 · exact (if_neg (hl 0 (by decide))).trans (if_pos h)
 · exact (if_neg (hl 0 (by decide))).trans ((if_neg (hl 1 (by decide))).trans (if_pos h))
theorem DE (n:Int) (hl:∀ q,q<3→¬n / 2 ^ G0 q=0):Gt n=3:=by
 unfold Gt;exact (if_neg (hl 0 (by decide))).trans ((if_neg (hl 1 (by decide))).trans (if_neg (hl 2 (by decide))))
set_option maxRecDepth 20000 in
set_option maxHeartbeats 4000000 in
theorem zM (n:Int) (w:World):Calls Tryz.prog 245 #[.int .i64 n] w fun e w'=>e = .returned (.int .i64 ((Gt n:Nat):Int))∧w'=w:=by
 go_enter Tryz.func245,Tryz.ntmps245;go_wp2;go_loopw [4] (fun i wr=>∃ k:Nat,k≤3∧i = .int .i64 k∧w=wr∧∀ q,q<k→¬n / 2 ^ G0 q=0) (fun i _=>3 - (intOf i).toNat)
 case atStart=>exact ⟨0,Nat.zero_le _,rfl,rfl,fun q hq=>absurd hq (Nat.not_lt_zero _)⟩
 case round =>
  obtain ⟨k,hk,rfl,rfl,hl⟩:=hrel
  by_cases hlt:k<3
  · have cb:=qL k hlt w
    have t1:(k:Int)<3:=by omega
    obtain ⟨b,hb⟩:∃ b,b=G0 k:=⟨_,rfl⟩
    have hb64:b<64:=by rw [hb];rcases (show k=0∨k=1∨k=2 by omega) with rfl | rfl | rfl <;> decide
    have t2:(0:Int)≤(b:Int)∧(b:Int)<64:=by omega
    rw [←hb] at cb
    have e4:IntKind.u64.wrap (b:Int)=(b:Int):=by show (b:Int)%18446744073709551616=_;omega
    by_cases hn:n / 2 ^ b=0
    · have hkn:Gt n=k:=rH n k hlt (by rw [←hb];exact hn) hl
      clear hl hb;go_wp2_with (go_at_call 246;refine cb.mono ?_;clear cb;rintro e w1 ⟨rfl,hw⟩;obtain rfl:=hw.symm);go_ret;exact ⟨by rw [hkn];rfl,rfl⟩
    · have Hb:=Hid.mk' hb
      have Hl:=Hid.mk' hl;clear hl hb;go_wp2_with (go_at_call 246;refine cb.mono ?_;clear cb;rintro e w1 ⟨rfl,hw⟩;obtain rfl:=hw.symm);go_roundw
      case rel=>exact ⟨k+1,hlt,by go_num,trivial,fun q hq=>by
       by_cases e:q=k
       · subst e;rw [←Hb.out];exact hn
       · exact Hl.out q (by omega)⟩
      case measure=>simp [intOf];omega
  · obtain rfl:k=3:=by omega
    have hkn:=DE n hl;clear hl;go_wp2;go_ret;exact ⟨by rw [hkn];rfl,rfl⟩
theorem uW (n s:Nat) (h:IG s=true) (hn:n<Ik s) (w:World):Calls Tryz.prog 63 #[.int .i64 n,.int .i64 s] w fun e w'=>∃ v,e = .returned (.tuple #[v,.int .i64 0])∧ae w' v s (vz n s)∧Below w.heap.size w w':=by
 have c:=Ac s w;rw [h] at c;have hs:=zm h;have cm:=AK s (by omega) w;have cs:=ij n s (by omega) w
 obtain ⟨y,hy⟩:∃ y:Int,y=((Ik s - 1:Nat):Int):=⟨_,rfl⟩
 rw [←hy] at cm
 have t1:¬y<(n:Int):=by omega
 have t2:¬(n:Int)<0:=by omega
 clear hy hn hs;go_enter Tryz.func63,Tryz.ntmps63
 go_wp2_with (first
  | (go_at_call 127;refine c.mono ?_;clear c;rintro e w1 ⟨rfl,hw⟩;obtain rfl:=hw.symm)
  | (go_at_call 128;refine cm.mono ?_;clear cm;rintro e w1 ⟨rfl,hw⟩;obtain rfl:=hw.symm)
  | (go_at_call 129;refine cs.mono ?_;clear cs;rintro e w1 ⟨v1,rfl,hv1,b1⟩))
 go_ret2;exact ⟨v1,rfl,hv1,b1⟩
theorem iG (n k q:Nat) (hk:k<3) (hkn:Gt n=k) (hq:bits .or .i64 ((k*2 ^ G0 k:Nat):Int) (n:Int)=(q:Int)) (w:World):Calls Tryz.prog 207 #[.int .i64 n] w fun e w'=>∃ v,e = .returned (.tuple #[v,.int .i64 0])∧ae w' v (2 ^ k) (vz q (2 ^ k))∧Below w.heap.size w w':=by
 have c:=zM n w;rw [hkn] at c;clear hkn;have cb:=qL k hk w.drew;have bd:Below w.heap.size w w.drew:=(Below.refl _ _).drew
 rcases (show k=0∨k=1∨k=2 by omega) with rfl | rfl | rfl
 · have cs:=ij q 1 (by decide) w.drew
   replace hq:bits .or .i64 (0:Int) (n:Int)=(q:Int):=hq;clear hk;go_enter Tryz.func207,Tryz.ntmps207;go_wp2_with (go_at_call 245;refine c.mono ?_;clear c;rintro e w1 ⟨rfl,hw⟩;obtain rfl:=hw.symm)
   go_upto_region 4 with (fail)
   refine wp_region_held_drew (S:=fun u=>Below w.drew.heap.size w.drew u) (by kernel_rfl) (Below.refl _ _) (fun hS => ?_);refine tg 0 hS ?_;(try simp only [pS]);refine tg 1 hS ?_;(try simp only [pS]);refine tg 4 hS ?_;(try simp only [pS]);refine tg 6 hS ?_;(try simp only [pS]);refine tg 7 hS (v := .int .i64 1) ?_ (hy:=fun u _=>by kernel_rfl);(try simp only [pS]);refine cl 2 cb ?_;rintro e w2 ⟨rfl,hw⟩;obtain rfl:=hw.symm;refine ⟨_,rfl,hS,?_⟩;(try simp only [pS]);refine tg 3 hS (v := .int .i64 0) ?_ (hy:=fun u _=>by kernel_rfl);(try simp only [pS]);refine tg 5 hS (v := .int .i64 (q:Int)) ?_ (hy := ?_)
   rotate_left
   · exact fun u _=>Eq.trans (b := .ok (.value (.int .i64 (bits .or .i64 (0:Int) (n:Int)))) u) (by kernel_rfl) (by rw [hq])
   (try simp only [pS]);refine cn 8 cs ?_;rintro e w3 ⟨v3,rfl,hv3,b3⟩;refine ⟨_,rfl,b3,?_⟩;(try simp only [pS]);refine tg 9 (Below.refl _ _) ?_;(try simp only [pS]);refine tg 10 (Below.refl _ _) ?_;(try simp only [pS]);refine wpAnyH_done (by kernel_rfl) ?_ _;go_wp2;go_ret2;exact ⟨_,rfl,hv3,aa bd b3⟩
 · have cs:=ij q 2 (by decide) w.drew
   replace hq:bits .or .i64 (16384:Int) (n:Int)=(q:Int):=hq;clear hk;go_enter Tryz.func207,Tryz.ntmps207;go_wp2_with (go_at_call 245;refine c.mono ?_;clear c;rintro e w1 ⟨rfl,hw⟩;obtain rfl:=hw.symm)
   go_upto_region 4 with (fail)
   refine wp_region_held_drew (S:=fun u=>Below w.drew.heap.size w.drew u) (by kernel_rfl) (Below.refl _ _) (fun hS => ?_);refine tg 0 hS ?_;(try simp only [pS]);refine tg 1 hS ?_;(try simp only [pS]);refine tg 4 hS ?_;(try simp only [pS]);refine tg 6 hS ?_;(try simp only [pS]);refine tg 7 hS (v := .int .i64 2) ?_ (hy:=fun u _=>by kernel_rfl);(try simp only [pS]);refine cl 2 cb ?_;rintro e w2 ⟨rfl,hw⟩;obtain rfl:=hw.symm;refine ⟨_,rfl,hS,?_⟩;(try simp only [pS]);refine tg 3 hS (v := .int .i64 16384) ?_ (hy:=fun u _=>by kernel_rfl);(try simp only [pS]);refine tg 5 hS (v := .int .i64 (q:Int)) ?_ (hy := ?_)
   rotate_left
   · exact fun u _=>Eq.trans (b := .ok (.value (.int .i64 (bits .or .i64 (16384:Int) (n:Int)))) u) (by kernel_rfl) (by rw [hq])
   (try simp only [pS]);refine cn 8 cs ?_;rintro e w3 ⟨v3,rfl,hv3,b3⟩;refine ⟨_,rfl,b3,?_⟩;(try simp only [pS]);refine tg 9 (Below.refl _ _) ?_;(try simp only [pS]);refine tg 10 (Below.refl _ _) ?_;(try simp only [pS]);refine wpAnyH_done (by kernel_rfl) ?_ _;go_wp2;go_ret2;exact ⟨_,rfl,hv3,aa bd b3⟩
 · have cs:=ij q 4 (by decide) w.drew
   replace hq:bits .or .i64 (2147483648:Int) (n:Int)=(q:Int):=hq;clear hk;go_enter Tryz.func207,Tryz.ntmps207;go_wp2_with (go_at_call 245;refine c.mono ?_;clear c;rintro e w1 ⟨rfl,hw⟩;obtain rfl:=hw.symm)
   go_upto_region 4 with (fail)
   refine wp_region_held_drew (S:=fun u=>Below w.drew.heap.size w.drew u) (by kernel_rfl) (Below.refl _ _) (fun hS => ?_);refine tg 0 hS ?_;(try simp only [pS]);refine tg 1 hS ?_;(try simp only [pS]);refine tg 4 hS ?_;(try simp only [pS]);refine tg 6 hS ?_;(try simp only [pS]);refine tg 7 hS (v := .int .i64 4) ?_ (hy:=fun u _=>by kernel_rfl);(try simp only [pS]);refine cl 2 cb ?_;rintro e w2 ⟨rfl,hw⟩;obtain rfl:=hw.symm;refine ⟨_,rfl,hS,?_⟩;(try simp only [pS]);refine tg 3 hS (v := .int .i64 2147483648) ?_ (hy:=fun u _=>by kernel_rfl);(try simp only [pS]);refine tg 5 hS (v := .int .i64 (q:Int)) ?_ (hy := ?_)
   rotate_left
   · exact fun u _=>Eq.trans (b := .ok (.value (.int .i64 (bits .or .i64 (2147483648:Int) (n:Int)))) u) (by kernel_rfl) (by rw [hq])
   (try simp only [pS]);refine cn 8 cs ?_;rintro e w3 ⟨v3,rfl,hv3,b3⟩;refine ⟨_,rfl,b3,?_⟩;(try simp only [pS]);refine tg 9 (Below.refl _ _) ?_;(try simp only [pS]);refine tg 10 (Below.refl _ _) ?_;(try simp only [pS]);refine wpAnyH_done (by kernel_rfl) ?_ _;go_wp2;go_ret2;exact ⟨_,rfl,hv3,aa bd b3⟩
theorem vw (n:Nat) (hn:n<1073741824) (w:World):Calls Tryz.prog 207 #[.int .i64 n] w fun e w'=>∃ v,e = .returned (.tuple #[v,.int .i64 0])∧ae w' v (nD n) (Iy n)∧Below w.heap.size w w':=by
 unfold Iy
 by_cases h2:n<64
 · have e1:yt n=n:=by unfold yt;rw [if_pos h2]
   have e2:nD n=2 ^ 0:=by unfold nD;rw [if_pos h2]
   rw [e1,e2];refine iG n 0 n (by decide) (rH _ 0 (by decide) (show (n:Int) / 64=0 by omega) (fun q hq=>absurd hq (Nat.not_lt_zero _))) ?_ w;have:=jO 0 n (by decide) (by omega);rw [Nat.zero_or] at this;exact this
 · have g0:¬(n:Int) / 64=0:=by omega
   by_cases h3:n<16384
   · have e1:yt n=n+16384:=by unfold yt;rw [if_neg h2,if_pos h3]
     have e2:nD n=2 ^ 1:=by unfold nD;rw [if_neg h2,if_pos h3]
     rw [e1,e2]
     refine iG n 1 (n+16384) (by decide) (rH _ 1 (by decide) (show (n:Int) / 16384=0 by omega) (fun q hq=>by
      obtain rfl:q=0:=by omega
      exact g0)) ?_ w
     have h:=Nat.two_pow_add_eq_or_of_lt (i:=14) (b:=n) h3 1;have:=jO 16384 n (by decide) (by omega);rw [←(show 16384+n=16384 ||| n from h),Nat.add_comm] at this;exact this
   · have g1:¬(n:Int) / 16384=0:=by omega
     have e1:yt n=n+2147483648:=by unfold yt;rw [if_neg h2,if_neg h3]
     have e2:nD n=2 ^ 2:=by unfold nD;rw [if_neg h2,if_neg h3]
     rw [e1,e2]
     refine iG n 2 (n+2147483648) (by decide) (rH _ 2 (by decide) (show (n:Int) / 1073741824=0 by omega) (fun q hq=>by
      rcases (show q=0∨q=1 by omega) with rfl | rfl
      · exact g0
      · exact g1)) ?_ w
     have h:=Nat.two_pow_add_eq_or_of_lt (i:=31) (b:=n) (by omega) 1;have:=jO 2147483648 n (by decide) (by omega);rw [←(show 2147483648+n=2147483648 ||| n from h),Nat.add_comm] at this;exact this
theorem lO (w:World) (v u:Value) (n m:Nat) (t s:Nat→Nat) (ty:TypeId) (h1:ae w v n t) (h2:ae w u m s):fe (w.alloc (.cells #[v,u] ty)) w.heap.size 2 (n+m) (bu n t s):=by
 have b:=(Below.refl _ w).alloc (JW _) (.cells #[v,u] ty);refine ⟨fun i=>if i=0 then v else u,fun i=>if i=0 then 0 else if i=1 then n else n+m,rfl,rfl,fun i hi => ?_⟩
 rcases (show i=0∨i=1 by omega) with rfl | rfl
 · refine ⟨by simp,Nat.zero_le _,Nat.le_add_right _ _,?_⟩
   show ae _ v (n - 0) (fun j=>bu n t s (0+j));rw [Nat.sub_zero]
   exact (h1.keep b).cong fun j hj=>by rw [Nat.zero_add,d7 hj]
 · refine ⟨by simp,Nat.le_add_right _ _,JW _,?_⟩
   show ae _ u (n+m - n) (fun j=>bu n t s (n+j));rw [Nat.add_sub_cancel_left]
   exact (h2.keep b).cong fun j hj=>by rw [fJ]
theorem uy (v:Value) (n:Nat) (b:Nat→Nat) (hn:65536<n) (w:World) (hv:ae w v n b):Calls Tryz.prog 153 #[v] w fun e w'=>e = .returned (.tuple #[.slice none 0 0,.int .i64 6])∧Below w.heap.size w w':=by
 obtain ⟨x1,c1,rfl,-,-,-⟩:=hv.src;clear hv
 have t1:(65536:Int)<(n:Int):=by omega
 clear hn;go_enter Tryz.func153,Tryz.ntmps153;go_wp2;go_ret2;exact ⟨rfl,Below.refl _ _⟩
set_option maxRecDepth 20000 in
set_option maxHeartbeats 4000000 in
theorem vI (v:Value) (n:Nat) (b:Nat→Nat) (hn:n≤65536) (w:World) (hv:ae w v n b):Calls Tryz.prog 153 #[v] w fun e w'=>∃ s,e = .returned (.tuple #[s,.int .i64 0])∧bx w.heap.size w' s (yW n) (DK n b)∧Below w.heap.size w w':=by
 have HV:=Hid.mk' hv;obtain ⟨x1,c1,rfl,-,-,-⟩:=hv.src;clear hv;have cl:=vw n (by omega) w;have hs:=nv n
 obtain ⟨z,hz⟩:∃ z:Int,z=(n:Int):=⟨_,rfl⟩
 have t1:¬(65536:Int)<(n:Int):=by omega
 have hL:yW n≤1000000:=by unfold yW;omega
 have h0:0<yW n:=by unfold yW;omega
 clear hn hz hs;go_enter Tryz.func153,Tryz.ntmps153
 go_wp2_with (first
  | (go_at_call 207;refine cl.mono ?_;clear cl;rintro e w1 ⟨h1,rfl,hh1,b1⟩;(obtain ⟨x2,c2,e2,-,-,-⟩:=hh1.src);subst e2;(have hP:=lO w1 _ _ _ _ _ _ 22 hh1 (HV.out.keep b1));(have cc:=tf w1.heap.size 2 (yW n) (DK n b) _ hP (by decide) hL h0);clear hP)
  | (go_at_call 47;refine cc.mono ?_;clear cc;rintro e w2 ⟨s,rfl,own2,b2⟩))
 go_ret2;have ba:=aa b1 ((Below.refl w1.heap.size w1).alloc (JW _) (.cells #[.slice x2 (nD n) c2,.slice x1 n c1] 22));exact ⟨s,rfl,World.ownsRow.mono own2 ba.size,aa ba b2⟩
def bG (pn:Nat→Nat):Nat→Nat
 | 0=>0
 | i+1=>bG pn i+pn i
def fF (pn:Nat→Nat) (pb:Nat→Nat→Nat):Nat→Nat→Nat
 | 0=>fun _=>0
 | i+1=>bu (bG pn i) (fF pn pb i) (pb i)
theorem kY (pn:Nat→Nat) {i j:Nat} (h:i≤j):bG pn i≤bG pn j:=by
 induction h with
 | refl=>exact JW _
 | step _ ih=>exact Nat.le_trans ih (Nat.le_add_right _ _)
theorem yP {pn:Nat→Nat} {pb:Nat→Nat→Nat} (h:∀ i j,pb i j<256):∀ i j,fF pn pb i j<256
 | 0,_=>Nat.zero_lt_succ _
 | i+1,j=>il (yP h i) (h i) j
structure dp (w:World) (xo:Option Addr) (cnt:Nat) (pv:Nat→Value) (pn:Nat→Nat) (pb:Nat→Nat→Nat):Prop where
 cell:∀ q,q<cnt→∃ lb lo,xo=some ⟨lb,lo,none⟩∧∀ i,i<cnt→w.cell? ⟨lb,lo+i,none⟩=some (pv i)
 each:∀ i,i<cnt→ae w (pv i) (pn i) (pb i)
 byte:∀ i j,pb i j<256
theorem dp.keep {w w':World} {xo:Option Addr} {cnt:Nat} {pv:Nat→Value} {pn:Nat→Nat} {pb:Nat→Nat→Nat} (h:dp w xo cnt pv pn pb) (hb:Below w.heap.size w w'):dp w' xo cnt pv pn pb:=by
 refine ⟨fun q hq => ?_,fun i hi=>(h.each i hi).keep hb,h.byte⟩;obtain ⟨lb,lo,rfl,hc⟩:=h.cell q hq;exact ⟨lb,lo,rfl,fun i hi=>(hb.cell (p:=⟨lb,lo+i,none⟩) (block_lt_of_cell (hc i hi))).trans (hc i hi)⟩
def nm (pn:Nat→Nat):Nat→Nat:=bG (fun i=>yW (pn i))
def Bf (pn:Nat→Nat) (pb:Nat→Nat→Nat):Nat→Nat→Nat:=fF (fun i=>yW (pn i)) (fun i=>DK (pn i) (pb i))
theorem sJ (pn:Nat→Nat):∀ n,nm pn n≤bG pn n+4*n
 | 0=>JW _
 | n+1=>by
  have h1:=sJ pn n;have h2:=nv (pn n);show nm pn n+(nD (pn n)+pn n)≤bG pn n+pn n+4*(n+1);omega
def kz (pn:Nat→Nat):Nat→Bool
 | 0=>false
 | n+1=>kz pn n || decide (65536<pn n)
theorem yG {pn:Nat→Nat}:∀ {n m},n≤m→kz pn n=true→kz pn m=true
 | n,0,h,hb=>by
  obtain rfl:n=0:=by omega
  exact hb
 | n,m+1,h,hb=>by
  by_cases e:n=m+1
  · subst e;exact hb
  · show (kz pn m || _)=true
    rw [yG (by omega:n≤m) hb];rfl
set_option maxRecDepth 20000 in
set_option maxHeartbeats 4000000 in
theorem zH (xo:Option Addr) (cnt cap:Nat) (pv:Nat→Value) (pn:Nat→Nat) (pb:Nat→Nat→Nat) (hcnt:cnt≤1048576) (hsum:bG pn cnt≤1048576) (w:World) (hP:dp w xo cnt pv pn pb) :
 Calls Tryz.prog 85 #[.slice xo cnt cap] w fun e w'=>((kz pn cnt=true∧e = .returned (.tuple #[.slice none 0 0,.int .i64 6]))∨(kz pn cnt=false∧∃ v,e = .returned (.tuple #[v,.int .i64 0])∧bx w.heap.size w' v (nm pn cnt) (Bf pn pb cnt)))∧Below w.heap.size w w':=by
 have hall:=sJ pn cnt;go_enter Tryz.func85,Tryz.ntmps85;go_wp2;go_loopw [4,11] (fun al i wr=>∃ q:Nat,q≤cnt∧i = .int .i64 q∧(∃ xa ca,al = .slice xa (nm pn q) ca∧bx w.heap.size wr (.slice xa (nm pn q) ca) (nm pn q) (Bf pn pb q))∧kz pn q=false∧Below w.heap.size w wr) (fun _ i _=>cnt - (intOf i).toNat)
 case atStart=>exact ⟨0,Nat.zero_le _,rfl,⟨none,0,rfl,bx.nil _ _ _⟩,rfl,Below.refl _ _⟩
 case round =>
  obtain ⟨q,hq,rfl,⟨xa,ca,rfl,own⟩,hbg,hb⟩:=hrel
  by_cases hlt:q<cnt
  · obtain ⟨lb,lo,rfl,hcell⟩:=(hP.keep hb).cell q hlt
    have hBq:=(hP.keep hb).each q hlt;have hc0:=hcell q hlt
    have hqi:(0:Int)≤(q:Int)∧(q:Int)<cnt:=by omega
    have hq1:(q:Int)<(cnt:Int):=by omega
    by_cases hz:65536<pn q
    · have hv:=uy (pv q) (pn q) (pb q) hz wr hBq
      have hB1:kz pn cnt=true:=yG hlt (by show (kz pn q || decide (65536<pn q))=true;rw [decide_eq_true hz,Bool.or_true])
      obtain ⟨vv,hvv⟩:∃ vv,vv=pv q:=⟨_,rfl⟩
      rw [←hvv] at hv hc0;clear hvv hBq hcell hP hz own hbg;go_wp2_with (go_at_call 153;refine hv.mono ?_;clear hv;rintro e w1 ⟨rfl,b1⟩);go_ret2;exact ⟨.inl ⟨hB1,rfl⟩,aa hb b1⟩
    have hv:=vI (pv q) (pn q) (pb q) (by omega) wr hBq
    have hbg2:kz pn (q+1)=false:=by show (kz pn q || decide (65536<pn q))=false;rw [hbg,decide_eq_false hz];rfl
    have HN:Hid (nm pn (q+1)=nm pn q+yW (pn q)∧Bf pn pb (q+1)=bu (nm pn q) (Bf pn pb q) (DK (pn q) (pb q))):=Hid.mk' ⟨rfl,rfl⟩;have hle:nm pn (q+1)≤nm pn cnt:=kY _ hlt;rw [HN.out.1] at hle
    obtain ⟨T,hT⟩:∃ T,T=nm pn q:=⟨_,rfl⟩
    obtain ⟨F,hF⟩:∃ F,F=Bf pn pb q:=⟨_,rfl⟩
    obtain ⟨m,hm⟩:∃ m,m=yW (pn q):=⟨_,rfl⟩
    obtain ⟨G,hG⟩:∃ G,G=DK (pn q) (pb q):=⟨_,rfl⟩
    obtain ⟨vv,hvv⟩:∃ vv,vv=pv q:=⟨_,rfl⟩
    rw [←hT,←hF,←hm,←hG] at HN;rw [←hT,←hm] at hle;rw [←hT,←hF] at own;rw [←hm,←hG,←hvv] at hv;rw [←hvv] at hc0;rw [←hT]
    have hTm:T+m≤140737488355328:=by omega
    clear hT hF hm hG hvv hBq hcell hP hle hz hbg
    go_wp2_with (first
     | (go_at_call 153;refine hv.mono ?_;clear hv;rintro e w1 ⟨s1,rfl,own1,b1⟩;(obtain ⟨x1,c1,hs1,hxn1,hc1,hsrc1⟩:=(ae.of_own own1).src);subst hs1;have hsrc:=hsrc1 w1 (Below.refl _ _);have ownW:=own.below b1;have hbw1:=aa hb b1)
     | (at_builtin;refine aR rfl (.tmp 23) (.tmp 24) rfl w.heap.size _ T F rfl ownW x1 m c1 G rfl hsrc hxn1 hTm hbw1.size ?_;intro v2 w2 own2 grow2;have hbw2:=bx.grown hbw1 grow2 ownW (JW _) hbw1.size;(obtain ⟨x2,c2,hv2⟩:=own2.slice);subst hv2))
    go_roundw
    case rel=>exact ⟨q+1,hlt,by go_num,⟨x2,c2,by rw [HN.out.1],by rw [HN.out.1,HN.out.2];exact own2⟩,hbg2,hbw2⟩
    case measure=>simp [intOf];omega
  · obtain rfl:q=cnt:=by omega
    have hq1:¬(q:Int)<(q:Int):=by omega
    go_wp2;go_ret2;exact ⟨⟨_,rfl,own⟩,hb⟩
theorem vO (xo:Option Addr) (cnt cap:Nat) (pv:Nat→Value) (pn:Nat→Nat) (pb:Nat→Nat→Nat) (hbig:kz pn cnt=false) (hcnt:cnt≤1048576) (hsum:bG pn cnt≤1048576) (w:World) (hP:dp w xo cnt pv pn pb) :
 Calls Tryz.prog 85 #[.slice xo cnt cap] w fun e w'=>∃ v,e = .returned (.tuple #[v,.int .i64 0])∧bx w.heap.size w' v (nm pn cnt) (Bf pn pb cnt)∧Below w.heap.size w w' :=
 (zH xo cnt cap pv pn pb hcnt hsum w hP).mono fun e w' ⟨h,b⟩=>h.elim (fun h=>by rw [hbig] at h;cases h.1) (fun ⟨_,v,h1,h2⟩=>⟨v,h1,h2,b⟩)
set_option maxRecDepth 20000 in
set_option maxHeartbeats 4000000 in
theorem A4 (xo:Option Addr) (cnt cap:Nat) (pv:Nat→Value) (pn:Nat→Nat) (pb:Nat→Nat→Nat) (hsz:∀ i,i<cnt→pn i≤65536) (hcnt:cnt≤1048576) (hsum:bG pn cnt≤1048576) (w:World) (hP:dp w xo cnt pv pn pb) :
 Calls Tryz.prog 52 #[.slice xo cnt cap] w fun e w'=>∃ v,e = .returned v∧bx w.heap.size w' v (nm pn cnt) (Bf pn pb cnt)∧Below w.heap.size w w':=by
 have hall:=sJ pn cnt;go_enter Tryz.func52,Tryz.ntmps52;go_wp2;go_loopw [3,4] (fun al i wr=>∃ q:Nat,q≤cnt∧i = .int .i64 q∧(∃ xa ca,al = .slice xa (nm pn q) ca∧bx w.heap.size wr (.slice xa (nm pn q) ca) (nm pn q) (Bf pn pb q))∧Below w.heap.size w wr) (fun _ i _=>cnt - (intOf i).toNat)
 case atStart=>exact ⟨0,Nat.zero_le _,rfl,⟨none,0,rfl,bx.nil _ _ _⟩,Below.refl _ _⟩
 case round =>
  obtain ⟨q,hq,rfl,⟨xa,ca,rfl,own⟩,hb⟩:=hrel
  by_cases hlt:q<cnt
  · obtain ⟨lb,lo,rfl,hcell⟩:=(hP.keep hb).cell q hlt
    have hBq:=(hP.keep hb).each q hlt;have hc0:=hcell q hlt;have hv:=vC (pv q) (pn q) (pb q) (hsz q hlt) wr hBq
    have hqi:(0:Int)≤(q:Int)∧(q:Int)<cnt:=by omega
    have hq1:(q:Int)<(cnt:Int):=by omega
    have HN:Hid (nm pn (q+1)=nm pn q+yW (pn q)∧Bf pn pb (q+1)=bu (nm pn q) (Bf pn pb q) (DK (pn q) (pb q))):=Hid.mk' ⟨rfl,rfl⟩;have hle:nm pn (q+1)≤nm pn cnt:=kY _ hlt;rw [HN.out.1] at hle
    obtain ⟨T,hT⟩:∃ T,T=nm pn q:=⟨_,rfl⟩
    obtain ⟨F,hF⟩:∃ F,F=Bf pn pb q:=⟨_,rfl⟩
    obtain ⟨m,hm⟩:∃ m,m=yW (pn q):=⟨_,rfl⟩
    obtain ⟨G,hG⟩:∃ G,G=DK (pn q) (pb q):=⟨_,rfl⟩
    obtain ⟨vv,hvv⟩:∃ vv,vv=pv q:=⟨_,rfl⟩
    rw [←hT,←hF,←hm,←hG] at HN;rw [←hT,←hm] at hle;rw [←hT,←hF] at own;rw [←hm,←hG,←hvv] at hv;rw [←hvv] at hc0;rw [←hT]
    have hTm:T+m≤140737488355328:=by omega
    clear hT hF hm hG hvv hBq hcell hP hle
    go_wp2_with (first
     | (go_at_call 108;refine hv.mono ?_;clear hv;rintro e w1 ⟨s1,rfl,own1,b1⟩;(obtain ⟨x1,c1,hs1,hxn1,hc1,hsrc1⟩:=(ae.of_own own1).src);subst hs1;have hsrc:=hsrc1 w1 (Below.refl _ _);have ownW:=own.below b1;have hbw1:=aa hb b1)
     | (at_builtin;refine aR rfl (.tmp 21) (.tmp 22) rfl w.heap.size _ T F rfl ownW x1 m c1 G rfl hsrc hxn1 hTm hbw1.size ?_;intro v2 w2 own2 grow2;have hbw2:=bx.grown hbw1 grow2 ownW (JW _) hbw1.size;(obtain ⟨x2,c2,hv2⟩:=own2.slice);subst hv2))
    go_roundw
    case rel=>exact ⟨q+1,hlt,by go_num,⟨x2,c2,by rw [HN.out.1],by rw [HN.out.1,HN.out.2];exact own2⟩,hbw2⟩
    case measure=>simp [intOf];omega
  · obtain rfl:q=cnt:=by omega
    have hq1:¬(q:Int)<(q:Int):=by omega
    go_wp2;go_ret;exact ⟨_,rfl,own,hb⟩
end Go.Proofs.YtibdhadbflfdpaaGreatDoor
