/- What the proof stands on: T6C, T6D, T6E, I2LI. -/
import Derived.Test.YtddkbmnkbfciaaaGreatDoorI2CcM
import Derived.Test.YtddkbmnkbfciaaaGreatDoorT6AM
import Derived.Test.YtddkbmnkbfciaaaGreatDoorZAb2M
import Derived.Maps.RangeWalk
namespace Go.Proofs.YtddkbmnkbfciaaaGreatDoor
open Go.RowKit Go.Shelf Go.MapKept
open Go.ChangeMaps (setBlock)
theorem mp_delE {w:World} {b:Nat} {es:Array MapEntry} {clock:Nat} (hb:w.heap[b]? = some (.map es clock)) (hs:Stamped es clock) (hks:∀ x∈es.toList,IsKey (.int .i64) x.key) {P:Program} {mt et ty:TypeId} {kt:TypeId} (hm:P.underlying mt=some (.map kt et)) (hk:P.underlying kt=some (.int .i64)) (k:Int) :
 ∃ w' es',(Builtin.delete_ #[mt,kt] ty #[.map (some b),.int .i64 k]).run P w = .ok (.tuple #[]) w'∧w'.heap[b]? = some (.map es' clock)∧Stamped es' clock∧(∀ x,x∈es'.toList↔x∈es.toList∧x.key ≠ .int .i64 k)∧es'.toList.Sublist es.toList∧But (fun j=>j=b) w w'∧w'.heap.size=w.heap.size:=by
 have hkk:IsKey (.int .i64) (.int .i64 k):=rfl
 rcases findNow_spec hkk es.toList 0 hks with ⟨h1,h2⟩ | ⟨j,e,h1,h2,h3⟩
 · exact ⟨_,_,by simp [Builtin.delete_,run_underlying hm,MapKept.run_getObj_map hb,run_checkKey hk hkk,run_findKey hk h1,run_setObj_map _ hb,Result.andThen],(heap_set hb).1,hs,fun x=>⟨fun hx=>⟨hx,h2 x hx⟩,fun hx=>hx.1⟩,List.Sublist.refl _,but_set _,by simp⟩
 · exact ⟨_,_,by simp [Builtin.delete_,run_underlying hm,MapKept.run_getObj_map hb,run_checkKey hk hkk,run_findKey hk h1,run_setObj_map _ hb,Result.andThen],(heap_set hb).1,stamped_erase hs j,fun x=>by rw [mem_eraseIdx hs h2 x,h3],(by rw [Array.toList_eraseIdxIfInBounds];exact List.eraseIdx_sublist _ _),but_set _,by simp⟩
section
variable {P:Program} (w:World) {ops:Array Oper} {rest:List Oper} {o:Oper} {a:Act} {Q:Exit→Act→World→Prop}
theorem wpList_range_mp (hg:o.guard=none) (m:Operand) (t:TypeId) (hop:o.op=Op.range t m) (k e:TypeId) (ht:P.underlying t=some (.map k e)) (b:Nat) {es:Array MapEntry} {clock:Nat} (hb:w.heap[b]? = some (.map es clock))
 (hm:a.eval m = .map (some b)) (hK:wpList P ops Q rest (a.put o.dst (.pointer (some ⟨w.heap.size,0,none⟩))) (w.alloc (.mapIter (some b) clock #[] clock))) :
 wpList P ops Q (o :: rest) a w:=by
 refine wpList_plain hg fun K' hK' => ?_
 have hrun:=run_range_map w t k e b es clock ht hb
 unfold Oper.wp
 simp [execOp,hop,hm,hrun,Result.andThen]
 exact hK' _ _ hK
theorem wpList_next_mp (hg:o.guard=none) (it:Operand) (hop:o.op=Op.next it false) (r b since c0:Nat) (seen:Array Nat) (es:Array MapEntry) (clock:Nat) (hit:a.eval it = .pointer (some ⟨r,0,none⟩))
 (hr:w.heap[r]? = some (.mapIter (some b) since seen c0)) (hb:w.heap[b]? = some (.map es clock)) (hs:Stamped es clock) (hold:∀ x∈es.toList,x.born<since) (hsc:since≤c0)
 (hDone:(leftOf es seen).size=0→wpList P ops Q rest (a.put o.dst (.tuple #[.bool false])) w)
 (hMore:∀ e∈(leftOf es seen).toList,e∈es.toList→∀ w':World,w'.heap[r]? = some (.mapIter (some b) since (seen.push e.born) clock)→w'.heap[b]? = some (.map es clock)→But (fun j=>j=r) w w'→w'.heap.size=w.heap.size→(Instr.entry (.pointer (some ⟨r,0,none⟩))).run P w' = .ok (.tuple #[e.key,e.val]) w'→wpList P ops Q rest (a.put o.dst (.tuple #[.bool true,e.key,e.val])) w') :
 wpList P ops Q (o :: rest) a w:=by
 refine wpList_plain hg fun K' hK' => ?_
 unfold Oper.wp
 rcases run_next_at (P:=P) w o.type r b since c0 seen es clock hr hb hold hsc with ⟨h0,hrun⟩ | ⟨e,he,w1,hw1,hrun⟩
 · simp [execOp,hop,hit,hrun,Result.andThen]
   exact hK' _ _ (hDone h0)
 · simp [execOp,hop,hit,hrun,Result.andThen]
   have hes:e∈es.toList:=by
    unfold leftOf at he
    simp at he ⊢
    exact he.1
   have hrl:r<w.heap.size:=(Array.getElem?_eq_some_iff.1 hr).1
   have hne:b≠r:=fun h=>by rw [h,hr] at hb;cases hb
   have b1:But (fun j=>j=r) w w1:=by
    rcases hw1 with rfl | rfl
    · exact But.of_below (Below.refl _ _)
    · exact But.of_below (Below.refl _ _).drew
   have h1s:w1.heap=w.heap:=by rcases hw1 with rfl | rfl <;> rfl
   have hr2:(setBlock w1 r (.mapIter (some b) since (seen.push e.born) clock)).heap[r]? = some (.mapIter (some b) since (seen.push e.born) clock):=by
    show (w1.heap.setIfInBounds r _)[r]? = _
    rw [h1s];simp [hrl]
   have hb2:(setBlock w1 r (.mapIter (some b) since (seen.push e.born) clock)).heap[b]? = some (.map es clock):=by
    show (w1.heap.setIfInBounds r _)[b]? = _
    rw [h1s,Array.getElem?_setIfInBounds_ne (Ne.symm hne)];exact hb
   exact hK' _ _ (hMore e he hes _ hr2 hb2 (b1.trans (but_set _)) (by show (w1.heap.setIfInBounds r _).size=_;rw [h1s];simp) (run_entry_at _ r b since seen es clock e hr2 hb2 hes hs.2.1))
end
def leftN (b r:Nat) (w:World):Nat:=match w.heap[b]?,w.heap[r]? with
 | some (.map es _),some (.mapIter _ _ seen _)=>(leftOf es seen).size
 | _,_=>0
theorem leftN_eq {b r:Nat} {w:World} {es:Array MapEntry} {clock:Nat} {m:Option Nat} {s c:Nat} {seen:Array Nat} (hb:w.heap[b]? = some (.map es clock)) (hr:w.heap[r]? = some (.mapIter m s seen c)):leftN b r w=(leftOf es seen).size:=by
 unfold leftN;rw [hb,hr]
theorem halve1_any (bx tb:Nat) (n:Int) (hn:mayB n=true) (x:Int) (v:Value) (w:World) (hbx:w.cell? ⟨bx,0,none⟩=some (pA tb 0)) (hlv:w.cell? ⟨tb,0,none⟩=some (.int .i64 n)) :
 Calls Tryz.prog 175 #[.int .i64 x,v,pA bx 0] w fun e w'=>e = .returned (.bool (!decide (0≤x) || !decide (x<2*n - 1)))∧w'=w:=by
 have c:=hasPlace_any tb n x hn w hlv
 go_enter Tryz.func175,Tryz.ntmps175
 go_wp2_with (go_at_call 91;refine c.mono ?_;clear c;rintro e w1 ⟨rfl,rfl⟩)
 go_ret
 exact ⟨rfl,rfl⟩
theorem left_sub {es es':Array MapEntry} (seen:Array Nat) (h:es'.toList.Sublist es.toList):(leftOf es' seen).size≤(leftOf es seen).size:=by
 have k:∀ (a:Array MapEntry) (p:MapEntry→Bool),(a.filter p).size=(a.toList.filter p).length:=fun a p=>by rw [←Array.toList_filter,Array.length_toList]
 unfold leftOf
 rw [k,k]
 exact (h.filter _).length_le
def offB (n x:Int):Bool:=!decide (0≤x) || !decide (x<2*n - 1)
theorem isKey_int {v:Value} (h:IsKey (.int .i64) v):∃ k,v = .int .i64 k:=by
 cases v with
 | int q k=>exact ⟨k,by rw [show q=IntKind.i64 from h]⟩
 | _=>exact absurd h (by simp [IsKey])
theorem but_new {bad:Nat→Prop} {w W W':World} {r:Nat} (h:But bad w W) (bt:But (fun j=>j=r) W W') (hr:w.heap.size≤r):But bad w W' :=
 ⟨bt.os.trans h.os,bt.tape.trans h.tape,bt.output.trans h.output,Nat.le_trans h.size bt.size,fun j hj hn=>(bt.block j (Nat.lt_of_lt_of_le hj h.size) (by omega)).trans (h.block j hj hn)⟩
structure DsJ (w:World) (b r:Nat) (n:Int) (f:Int→Option Value) (W:World) (es:Array MapEntry) (clock since c0:Nat) (seen:Array Nat):Prop where
 hr:W.heap[r]? = some (.mapIter (some b) since seen c0)
 hb:W.heap[b]? = some (.map es clock)
 st:Stamped es clock
 ky:∀ x∈es.toList,IsKey (.int .i64) x.key
 old:∀ x∈es.toList,x.born<since
 hsc:since≤c0
 scl:since≤clock
 sub:∀ x∈es.toList,∀ k,x.key = .int .i64 k→f k=some x.val
 all:∀ k v,f k=some v→offB n k=true∨∃ e∈es.toList,e.key = .int .i64 k∧e.val=v
 good:∀ x∈es.toList,seen.contains x.born=true→∀ k,x.key = .int .i64 k→offB n k=false
 bt:But (fun j=>j=b) w W
theorem DsJ.done {w:World} {b r:Nat} {n:Int} {f:Int→Option Value} {W:World} {es:Array MapEntry} {clock since c0:Nat} {seen:Array Nat} (h:DsJ w b r n f W es clock since c0 seen) (h0:(leftOf es seen).size=0):MpAt W b (fun k=>if offB n k then none else f k):=by
 refine ⟨es,clock,h.hb,h.st,h.ky,fun k v => ?_⟩
 constructor
 · intro hk
   have hk:(if offB n k=true then none else f k)=some v:=hk
   by_cases ho:offB n k=true
   · rw [if_pos ho] at hk;cases hk
   · rw [if_neg ho] at hk
     rcases h.all k v hk with h1 | h1
     · exact absurd h1 ho
     · exact h1
 · rintro ⟨e,he,h1,rfl⟩
   have h2:=h.good e he (all_seen es seen h0 e he) k h1
   show (if offB n k=true then none else f k)=some e.val
   rw [h2]
   exact h.sub e he k h1
theorem DsJ.next {w:World} {b r:Nat} {n:Int} {f:Int→Option Value} {W W':World} {es:Array MapEntry} {clock since c0:Nat} {seen:Array Nat} (h:DsJ w b r n f W es clock since c0 seen) {e:MapEntry} {k:Int} (hk:e.key = .int .i64 k) (he:e∈es.toList) (hg:offB n k=false) (hr:W'.heap[r]? = some (.mapIter (some b) since (seen.push e.born) clock)) (hb:W'.heap[b]? = some (.map es clock)) (bt:But (fun j=>j=r) W W') (hrw:w.heap.size≤r):DsJ w b r n f W' es clock since clock (seen.push e.born):=by
 refine ⟨hr,hb,h.st,h.ky,h.old,h.scl,h.scl,h.sub,h.all,fun x hx hs q hq => ?_,⟨bt.os.trans h.bt.os,bt.tape.trans h.bt.tape,bt.output.trans h.bt.output,Nat.le_trans h.bt.size bt.size,fun j hj hn=>(bt.block j (Nat.lt_of_lt_of_le hj h.bt.size) (by omega)).trans (h.bt.block j hj hn)⟩⟩
 simp only [Array.contains_push,Bool.or_eq_true] at hs
 rcases hs with hs | hs
 · exact h.good x hx hs q hq
 · have e1:x.born=e.born:=by simpa using hs
   have hxe:x=e:=by
    obtain ⟨i,hi⟩:=List.getElem?_of_mem hx
    obtain ⟨j,hj⟩:=List.getElem?_of_mem he
    have h1:(es.toList.map (·.born))[i]? = some e.born:=by rw [List.getElem?_map,hi];simp [e1]
    have h2:(es.toList.map (·.born))[j]? = some e.born:=by rw [List.getElem?_map,hj];rfl
    have:=nodup_at h.st.2.1 h1 h2
    subst this
    rw [hi] at hj
    exact Option.some.inj hj
   subst hxe
   rw [hk] at hq
   cases hq
   exact hg
theorem DsJ.struck {w:World} {b r:Nat} {n:Int} {f:Int→Option Value} {W W' W2:World} {es es':Array MapEntry} {clock since c0:Nat} {seen:Array Nat} (h:DsJ w b r n f W es clock since c0 seen) {e:MapEntry} {k:Int} (hk:e.key = .int .i64 k) (he:e∈es.toList) (hg:offB n k=true) (hr:W'.heap[r]? = some (.mapIter (some b) since (seen.push e.born) clock)) (bt:But (fun j=>j=r) W W') (hrw:w.heap.size≤r)
 (hb2:W2.heap[b]? = some (.map es' clock)) (st2:Stamped es' clock) (hm:∀ x,x∈es'.toList↔x∈es.toList∧x.key ≠ .int .i64 k) (bt2:But (fun j=>j=b) W' W2) (hne:r≠b) (hrl:r<W'.heap.size):DsJ w b r n f W2 es' clock since clock (seen.push e.born):=by
 refine ⟨(bt2.block r hrl hne).trans hr,hb2,st2,fun x hx=>h.ky x ((hm x).1 hx).1,fun x hx=>h.old x ((hm x).1 hx).1,h.scl,h.scl,fun x hx=>h.sub x ((hm x).1 hx).1,fun q v hq => ?_,fun x hx hs q hq => ?_,⟨bt2.os.trans (bt.os.trans h.bt.os),bt2.tape.trans (bt.tape.trans h.bt.tape),bt2.output.trans (bt.output.trans h.bt.output),Nat.le_trans h.bt.size (Nat.le_trans bt.size bt2.size),fun j hj hn=>(bt2.block j (Nat.lt_of_lt_of_le hj (Nat.le_trans h.bt.size bt.size)) hn).trans ((bt.block j (Nat.lt_of_lt_of_le hj h.bt.size) (by omega)).trans (h.bt.block j hj hn))⟩⟩
 · rcases h.all q v hq with h1 | ⟨x,hx,h1,h2⟩
   · exact .inl h1
   · by_cases e1:q=k
     · subst e1;exact .inl hg
     · exact .inr ⟨x,(hm x).2 ⟨hx,fun h3=>by rw [h1] at h3;simp at h3;exact e1 h3⟩,h1,h2⟩
 · obtain ⟨hx1,hx2⟩:=(hm x).1 hx
   simp only [Array.contains_push,Bool.or_eq_true] at hs
   rcases hs with hs | hs
   · exact h.good x hx1 hs q hq
   · have e1:x.born=e.born:=by simpa using hs
     exfalso
     obtain ⟨i,hi⟩:=List.getElem?_of_mem hx1
     obtain ⟨j,hj⟩:=List.getElem?_of_mem he
     have h1:(es.toList.map (·.born))[i]? = some e.born:=by rw [List.getElem?_map,hi];simp [e1]
     have h2:(es.toList.map (·.born))[j]? = some e.born:=by rw [List.getElem?_map,hj];rfl
     have:=nodup_at h.st.2.1 h1 h2
     subst this
     rw [hi] at hj
     cases Option.some.inj hj
     exact hx2 hk
set_option maxRecDepth 100000 in
set_option maxHeartbeats 4000000 in
theorem hDelete_any (bx tb mb:Nat) (n:Int) (hn:mayB n=true) (f:Int→Option Value) (w:World) (hm:MpAt w mb f) (hbx:w.cell? ⟨bx,0,none⟩=some (pA tb 0)) (hlv:w.cell? ⟨tb,0,none⟩=some (.int .i64 n)) :
 Calls Tryz.prog 174 #[.map (some mb),.func (.func 175) #[] #[pA bx 0]] w fun e w'=>(∃ v,e = .returned v)∧MpAt w' mb (fun k=>if offB n k then none else f k)∧But (fun j=>j=mb) w w':=by
 have nb1:bx≠mb:=fun e=>by rw [e,hm.nocell] at hbx;cases hbx
 have nb2:tb≠mb:=fun e=>by rw [e,hm.nocell] at hlv;cases hlv
 have hbl:=block_lt_of_cell hbx
 have htl:=block_lt_of_cell hlv
 obtain ⟨es,clock,hb,hs,hks,hf⟩:=hm
 have hml:mb<w.heap.size:=(Array.getElem?_eq_some_iff.1 hb).1
 have cH:=fun (W:World) (hW:But (fun j=>j=mb) w W) (x:Int) (v:Value)=>halve1_any bx tb n hn x v W ((World.cell?_of_block (w:=w) (a:=⟨bx,0,none⟩) (hW.block bx hbl nb1)).trans hbx) ((World.cell?_of_block (w:=w) (a:=⟨tb,0,none⟩) (hW.block tb htl nb2)).trans hlv)
 have h0:DsJ w mb w.heap.size n f (w.alloc (.mapIter (some mb) clock #[] clock)) es clock clock clock #[]:=by
  have bA:Below w.heap.size w (w.alloc (.mapIter (some mb) clock #[] clock)):=(Below.refl _ _).alloc (Nat.le_refl _) _
  refine ⟨World.alloc_heap_new w _,(bA.block mb hml).trans hb,hs,hks,hs.1,Nat.le_refl _,Nat.le_refl _,fun x hx k hk=>(hf k x.val).2 ⟨x,hx,hk,rfl⟩,fun k v hk => .inr ((hf k v).1 hk),fun x hx hc=>by simp at hc,But.of_below bA⟩
 clear hbx hlv hbl htl hs hks hf
 have Hn:=Hid.mk' (And.intro nb1 (And.intro nb2 hml))
 clear nb1 nb2 hml
 go_enter Tryz.func174,Tryz.ntmps174
 go_wp2_with (at_range;refine wpList_range_mp w rfl _ 69 rfl 3 90 und_map mb hb rfl ?_)
 clear hb
 go_frame
 go_loopw [8] (fun _ wr=>∃ es clock since c0 seen,DsJ w mb w.heap.size n f wr es clock since c0 seen) (fun _ wr=>leftN mb w.heap.size wr)
 case atStart=>exact ⟨_,_,_,_,_,h0⟩
 case round =>
  clear h0
  obtain ⟨es,clock,since,c0,seen,hJ⟩:=hrel
  go_wp2_with (at_next;refine wpList_next_mp _ rfl _ rfl w.heap.size mb since c0 seen es clock rfl hJ.hr hJ.hb hJ.st hJ.old hJ.hsc ?_ ?_)
  · intro hl0
    have hfin:=hJ.done (by rw [hl0];rfl)
    have hbt:=hJ.bt
    clear hJ
    go_wp2
    refine bodyPost_end (results_none rfl _ _ _) rfl ?_
    exact ⟨⟨_,rfl⟩,hfin,hbt⟩
  · intro e hel hee w1 hr1 hb1 bt1 hs1 hen
    replace hel:e∈(leftOf es seen).toList:=by simpa using hel
    replace hee:e∈es.toList:=by simpa using hee
    obtain ⟨k,hk⟩:=isKey_int (hJ.ky e hee)
    rw [hk] at hen ⊢
    have hbw:=but_new hJ.bt bt1 (Nat.le_refl _)
    have c1:=cH w1 hbw k e.val
    have hsh:=left_shrinks es seen e hel
    have e0:=leftN_eq hJ.hb hJ.hr
    have Hnq:=Hn.out
    have hrl:w.heap.size<w1.heap.size:=(Array.getElem?_eq_some_iff.1 hr1).1
    have Hcl:=Hid.mk' (And.intro Hnq hrl)
    clear Hnq hrl
    by_cases hp:offB n k=true
    · rw [show (!decide (0≤k) || !decide (k<2*n - 1))=true from hp] at c1
      obtain ⟨w2,es2,hdel,hb2,st2,hm2,hsl,bt2,hs2⟩:=mp_delE hb1 hJ.st hJ.ky und_map und_int k (ty:=0)
      have hq:=Hcl.out
      have hJ2:=hJ.struck hk hee hp hr1 bt1 (Nat.le_refl _) hb2 st2 hm2 bt2 (by omega) hq.2
      have e2:=leftN_eq hJ2.hb hJ2.hr
      have hle:=left_sub (seen.push e.born) hsl
      have Hfin:=Hid.mk' (And.intro hJ2 (And.intro e0 (And.intro e2 (And.intro hle hsh))))
      clear hJ hJ2 hm2 st2 hb2 bt2 hs2 hsl hr1 hb1 bt1 hs1 e0 e2 hle hsh hq
      go_wp2_with (go_at_call 175;refine c1.mono ?_;clear c1;rintro e2 w3 ⟨rfl,hw3⟩;obtain rfl:=hw3.symm)
      go_roundw
      case rel=>exact ⟨_,_,_,_,_,Hfin.out.1⟩
      case measure =>
       have hq:=Hfin.out
       rw [hq.2.1,hq.2.2.1];omega
    · rw [show (!decide (0≤k) || !decide (k<2*n - 1))=false from Bool.eq_false_iff.2 hp] at c1
      have hJ2:=hJ.next hk hee (Bool.eq_false_iff.2 hp) hr1 hb1 bt1 (Nat.le_refl _)
      have e2:=leftN_eq hJ2.hb hJ2.hr
      have Hfin:=Hid.mk' (And.intro hJ2 (And.intro e0 (And.intro e2 hsh)))
      clear hJ hJ2 hr1 hb1 bt1 hs1 e0 e2 hsh
      go_wp2_with (go_at_call 175;refine c1.mono ?_;clear c1;rintro e2 w3 ⟨rfl,hw3⟩;obtain rfl:=hw3.symm)
      go_roundw
      case rel=>exact ⟨_,_,_,_,_,Hfin.out.1⟩
      case measure =>
       have hq:=Hfin.out
       rw [hq.2.1,hq.2.2.1];omega
end Go.Proofs.YtddkbmnkbfciaaaGreatDoor
namespace Go.Proofs.YtddkbmnkbfciaaaGreatDoor
open Go.RowKit Go.Shelf
attribute [local go_sem] Oper.semAt_some
def cutN (n:Int) (F:Int→Option Nd):Int→Option Nd:=fun k=>if offB n k then none else F k
def halfT (T:Tr):Tr:=⟨T.n / 2,cutN ((T.n / 2:Nat):Int) T.nd⟩
theorem HoldsN.cut {ok:Nat→Prop} {w:World} {f:Int→Option Value} {F:Int→Option Nd} (h:HoldsN ok w f F) (n:Int):HoldsN ok w (fun k=>if offB n k then none else f k) (cutN n F):=fun x=>by
 show match (if offB n x then none else F x) with
  | none=>(if offB n x then none else f x)=none
  | some d=>∃ v,(if offB n x then none else f x)=some v∧NdO ok w v d
 cases e:offB n x with
 | true=>rfl
 | false =>
  rw [if_neg (by simp),if_neg (by simp)]
  exact h x
set_option maxRecDepth 20000 in
theorem halve_any (ok:Nat→Prop) (tb mb:Nat) (T:Tr) (hK:TrOK T) (hn:mayB ((T.n / 2:Nat):Int)=true) (w:World) (h:TrAt ok w tb mb T) :
 Calls Tryz.prog 107 #[pA tb 0] w fun e w'=>(∃ v,e = .returned v)∧TrAt ok w' tb mb (halfT T)∧But (fun j=>j=mb∨j=tb) w w':=by
 unfold halfT
 have hdv:wrap64 ((T.n:Int) / 2)=((T.n / 2:Nat):Int):=by have:=hK.n64;unfold wrap64;omega
 generalize T.n / 2=m at *
 obtain ⟨W1,hW1⟩:∃ W1,W1=w.alloc (.cells #[pA tb 0] 23):=⟨_,rfl⟩
 have k1:RW W1 w.heap.size 0 [pA tb 0]:=by rw [hW1];exact RW.fresh w [pA tb 0] 23
 have bw:Below w.heap.size w W1:=by rw [hW1];exact (Below.refl _ _).alloc (Nat.le_refl _) _
 have h1:=h.below bw
 have htl:=h.tlt
 have hml:=h.mlt
 have hlv:=h1.lv
 have hlf:=h1.lf
 have q1:=k1.range 0 _ rfl
 rw [Nat.zero_add] at q1
 obtain ⟨W2,hW2⟩:∃ W2,W2=W1.setCell ⟨tb,0,none⟩ (.int .i64 (m:Int)):=⟨_,rfl⟩
 obtain ⟨h2,b2⟩:=h1.leaves m
 rw [←hW2] at h2 b2
 have k2:=k1.but b2 (by omega:¬w.heap.size=tb)
 have q2:=k2.range 0 _ rfl
 rw [Nat.zero_add] at q2
 have hst:=h2.st
 obtain ⟨f,hmp,hh⟩:=h2.mp
 have cD:=hDelete_any w.heap.size tb mb (m:Int) hn f W2 hmp q2 h2.lv
 have HW1:=Hid.mk' hW1
 have HW2:=Hid.mk' hW2
 have Hh:=Hid.mk' (And.intro h2 (And.intro hh (And.intro htl hml)))
 clear hW1 hW2 h h1 h2 hmp hh htl hml
 go_enter Tryz.func107,Tryz.ntmps107
 go_wp2_with (first
  | (rw [←HW1.out];clear HW1)
  | (rw [←HW2.out];clear HW2 hlv hlf q1)
  | (go_at_call 174;refine cD.mono ?_;clear cD;rintro e w3 ⟨⟨v3,rfl⟩,hm3,bt3⟩))
 refine bodyPost_end (results_none rfl _ _ _) rfl ?_
 have hq:=Hh.out
 refine ⟨⟨_,rfl⟩,?_,((But.of_below bw).trans (b2.mono fun _ h => .inr h)).trans (bt3.mono fun _ h => .inl h)⟩
 have hne:=hq.1.ne
 have et:=bt3.block tb hq.1.tlt hne
 refine ⟨(World.cell?_of_block (w:=W2) et).trans hq.1.lv,(World.frozen?_of_block (w:=W2) et).trans hq.1.lf,(World.cell?_of_block (w:=W2) et).trans hq.1.st,⟨_,hm3,?_⟩,hq.1.ntb,hq.1.nmb⟩
 exact (hq.2.1.same bt3.size (fun b hb ho=>bt3.block b hb (fun e=>hq.1.nmb (e ▸ ho)))).cut _
def rightN (F:Int→Option Nd) (h:Nat):Nat→Bool
 | 0=>false
 | m+1=>rightN F h m || (decide (h≤m) && (F (2*(m:Int))).isSome)
def tooB (T:Tr):Bool:=decide (1<T.n) && !rightN T.nd (T.n / 2) T.n
theorem rightN_iff (F:Int→Option Nd) (h:Nat):∀ m,rightN F h m=true↔∃ k,k<m∧h≤k∧(F (2*(k:Int))).isSome=true
 | 0=>⟨(fun h=>by cases h),fun ⟨k,hk,_⟩=>absurd hk (Nat.not_lt_zero _)⟩
 | m+1=>by
  unfold rightN
  rw [Bool.or_eq_true,rightN_iff F h m,Bool.and_eq_true,decide_eq_true_eq]
  constructor
  · rintro (⟨k,h1,h2⟩ | ⟨h1,h2⟩)
    · exact ⟨k,by omega,h2⟩
    · exact ⟨m,by omega,h1,h2⟩
  · rintro ⟨k,h1,h2,h3⟩
    by_cases e:k=m
    · subst e;exact .inr ⟨h2,h3⟩
    · exact .inl ⟨k,by omega,h2,h3⟩
structure TwJ (r:Prop) (w:World) (rb ib pb tb:Nat) (M:Nat→Prop) (W:World):Prop where
 fact:r
 bx:RW W rb 0 [.bool false]
 ib:RW W ib 0 [pA tb 0]
 pb:RW W pb 0 [pA tb 0]
 bel:Below w.heap.size w W
 no:∀ b,¬M b
theorem results_cellB {fn:Func} {p:Tmp} (h:fn.results=#[.cell p 4]) (tmps:Array Value) (w:World) (g:Nat) (v:Bool) (hp:tmps.getD p undef = .pointer (some ⟨g,0,none⟩)) (hc:w.cell? ⟨g,0,none⟩=some (.bool v)) :
 (results fn tmps).run Tryz.prog w = .ok (.bool v) w:=by
 have hp':tmps[p]?.getD undef = .pointer (some ⟨g,0,none⟩):=by simpa using hp
 simp only [results,h]
 simp [hp',asAddr]
 go_simp
set_option maxRecDepth 100000 in
set_option maxHeartbeats 4000000 in
theorem tooWide_any (ok:Nat→Prop) (tb mb:Nat) (T:Tr) (hK:TrOK T) (w:World) (h:TrAt ok w tb mb T) :
 Calls Tryz.prog 79 #[pA tb 0] w fun e w'=>e = .returned (.bool (tooB T))∧Below w.heap.size w w':=by
 obtain ⟨f,hmp,hh⟩:=h.mp
 have hlv:=h.lv
 have hst:=h.st
 have htl:=h.tlt
 have hml:=h.mlt
 obtain ⟨W1,hW1⟩:∃ W1,W1=(w.alloc (.cells #[pA tb 0] 23)).alloc (.cells #[.bool false] 4):=⟨_,rfl⟩
 have rT:RW W1 w.heap.size 0 [pA tb 0]:=by rw [hW1];exact (RW.fresh w [pA tb 0] 23).still ((Below.refl _ _).alloc (Nat.le_refl _) _)
 have rB:RW W1 (w.heap.size+1) 0 [.bool false]:=by
  have:=RW.fresh (w.alloc (.cells #[pA tb 0] 23)) [.bool false] 4
  rw [World.size_alloc] at this
  rw [hW1];exact this
 have b1:Below w.heap.size w W1:=by rw [hW1];exact ((Below.refl _ _).alloc (Nat.le_refl _) _).alloc (by simp) _
 have s1:W1.heap.size=w.heap.size+2:=by rw [hW1];simp
 have cM:=members_any tb W1
 obtain ⟨W2,hW2⟩:∃ W2,W2=W1.alloc (.cells #[pA tb 0] 23):=⟨_,rfl⟩
 have r2:RW W2 W1.heap.size 0 [pA tb 0]:=by rw [hW2];exact RW.fresh W1 [pA tb 0] 23
 have b2:Below W1.heap.size W1 W2:=by rw [hW2];exact (Below.refl _ _).alloc (Nat.le_refl _) _
 have s2:W2.heap.size=w.heap.size+3:=by rw [hW2];simp;omega
 rw [←hW2] at cM
 rw [s1] at cM r2
 have qT:=rT.range 0 _ rfl
 rw [Nat.zero_add] at qT
 replace rT:=rT.still b2
 replace rB:=rB.still b2
 have bw:=below_next b1 b2
 have hit:=members_it (w.heap.size+2) tb mb T.n hK.may (fun k=>f (k:Int)) (fun k=>hh.shp _)
 have HW1:=Hid.mk' hW1
 have Hs2:=Hid.mk' s2
 clear hW1 hW2 b1 b2 s1
 obtain ⟨nn,-⟩:∃ nn:Nat,True:=⟨1,trivial⟩
 refine (callsIn_wide (n:=nn)).1 ?_
 refine callsIn_of_wp_marks Tryz.func79 rfl trivial ?_ rfl
 simp only [Tryz.ntmps79,List.size_toArray,List.length_cons,List.length_nil,Nat.reduceAdd,Nat.reduceSub,Array.replicate_succ,Array.replicate_zero,List.push_toArray,List.append_toArray,List.nil_append,List.cons_append]
 gi_wp2_with (first
  | (rw [←HW1.out];clear HW1)
  | (refine ⟨trivial,(fun h=>by cases h),?_⟩;gi_at_call 86;refine (callsIn_wide.2 cM).mono ?_;clear cM;rintro e w1 ⟨rfl,hw1⟩;obtain rfl:=hw1.symm))
 have s2:=Hs2.out
 have hn64:=hK.n64
 have hjb:∀ (r:Prop) (M:Nat→Prop) (V V':World),TwJ r w (w.heap.size+1) w.heap.size (w.heap.size+2) tb M V→Loc W2.heap.size M V V'→TwJ r w (w.heap.size+1) w.heap.size (w.heap.size+2) tb M V':=fun r M V V' hj hL =>
  ⟨hj.fact,hL.rw hj.bx (.inl (by omega)),hL.rw hj.ib (.inl (by omega)),hL.rw hj.pb (.inl (by omega)),hj.bel.trans (hL.below (by have:=hj.pb.lt;omega) |>.mono (by omega)),hj.no⟩
 refine range_it hit rfl (enters_of Tryz.func162 (by kernel_rfl) rfl)
  (fun k=>TwJ (rightN T.nd (T.n / 2) ((k+1) / 2)=false) w (w.heap.size+1) w.heap.size (w.heap.size+2) tb)
  (fun c M' V'=>c = .ret∧TwJ (rightN T.nd (T.n / 2) T.n=true) w (w.heap.size+1) w.heap.size (w.heap.size+2) tb M' V') (fun _=>False) ?_ ?_ ?_ ?_ ?_ (fun b hb=>hb.elim) ?_ ?_ ?_ ?_
 · intro k M V V' hj hL;exact hjb _ M V V' hj hL
 · rintro c M V V' ⟨rfl,hj⟩ hL;exact ⟨rfl,hjb _ M V V' hj hL⟩
 · intro k M V hk hj
   exact ⟨⟨hj.pb.range 0 _ rfl,(hj.bel.cell (p:=⟨tb,0,none⟩) htl).trans hlv,(hj.bel.cell (p:=⟨tb,1,none⟩) htl).trans hst⟩,fun _=>⟨f,hmp.below hj.bel hml,rfl⟩⟩
 · intro k M V hk ha hj
   have h0:=hj.fact
   refine ⟨?_,hj.bx,hj.ib,hj.pb,hj.bel,hj.no⟩
   rcases Nat.mod_two_eq_zero_or_one k with h2 | h2
   · have e1:(k+1+1) / 2=(k+1) / 2+1:=by omega
     rw [e1]
     unfold rightN
     rw [h0,Bool.false_or,Bool.and_eq_false_iff]
     right
     rw [show 2*(((k+1) / 2:Nat):Int)=(k:Int) by omega]
     rcases hh.lf (k:Int) with ⟨-,hno⟩ | ⟨cs,d,hl,-⟩
     · cases hF:T.nd (k:Int) with
       | none=>rfl
       | some d =>
        cases d with
        | lf d=>exact absurd hF (hno d)
        | pr d=>have:=(hK.pr _ _ hF).1;omega
     · rw [hl] at ha;cases ha
   · rw [show (k+1+1) / 2=(k+1) / 2 by omega];exact h0
 · intro k a' ha
   cases hl:lfV (f (k:Int)) with
   | none=>rw [hl] at ha;cases ha
   | some A=>rw [hl] at ha;cases ha;rfl
 · intro V hb
   exact ⟨rfl,rB.still hb,rT.still hb,r2.still hb,below_next bw hb,fun _ h=>h⟩
 · intro k M V l a' hk ha hj hl1 hl2 hl3
   have h0:=hj.fact
   rcases hh.lf (k:Int) with ⟨hn,-⟩ | ⟨cs,d,hl,hF,-⟩
   · rw [hn] at ha;cases ha
   rw [hl] at ha
   cases ha
   have hev:=(hK.lf _ _ hF).1
   obtain ⟨m,rfl⟩:∃ m,k=2*m:=⟨k / 2,by omega⟩
   rw [show 2*m / 2=m by omega]
   have em:(2*m+1) / 2=m:=by omega
   have em2:(2*m+1+1) / 2=m+1:=by omega
   rw [em] at h0 hj ⊢
   rw [em2]
   have hsm:(T.nd (2*(m:Int))).isSome=true:=by rw [show (2*(m:Int))=(((2*m:Nat)):Int) by omega,hF];rfl
   by_cases hge:T.n / 2≤m
   · have er:rightN T.nd (T.n / 2) T.n=true:=(rightN_iff _ _ _).2 ⟨m,by omega,hge,hsm⟩
     have hge':(T.n:Int) / 2≤(m:Int):=by omega
     have Her:=Hid.mk' er
     clear hl hit hj h0 hsm hF hev em em2 hh hmp er
     gi_wp2
     refine ⟨Below.refl _ _,fun V2 hbt hsz hj2 => ?_⟩
     have hj3:=hj2
     have q0:=hj3.bx.range 0 _ rfl
     have q1:=(hj3.bx.there 0 (by simp)).2
     have q2:=hj3.ib.range 0 _ rfl
     have q3:=(hj3.bel.cell (p:=⟨tb,0,none⟩) htl).trans hlv
     rw [Nat.zero_add] at q0 q1 q2
     clear hj2
     gi_wp2
     refine ⟨Fro.of_but (bad:=fun b=>b=w.heap.size+1) ⟨rfl,rfl,rfl,by simp,fun b _ hb=>Below.heap_setCell _ _ _ _ hb⟩ (fun b hb => .inl (by omega)),M,fun b hb => .inl hb,rfl,Her.out,hj3.bx.stored [.bool false] rfl,hj3.ib.far (w.heap.size+1) 0 [_] (.inl (by omega)),hj3.pb.far (w.heap.size+1) 0 [_] (.inl (by omega)),hj3.bel.setCell (by show w.heap.size≤w.heap.size+1;omega) _,hj3.no⟩
   · have er:rightN T.nd (T.n / 2) (m+1)=false:=by
      unfold rightN
      rw [h0,decide_eq_false hge];rfl
     have hge':¬(T.n:Int) / 2≤(m:Int):=by omega
     have Her:=Hid.mk' er
     clear hl hit hj h0 hsm hF hev em em2 hh hmp er
     gi_wp2
     refine ⟨Below.refl _ _,fun V2 hbt hsz hj2 => ?_⟩
     have hj3:=hj2
     have q2:=hj3.ib.range 0 _ rfl
     have q3:=(hj3.bel.cell (p:=⟨tb,0,none⟩) htl).trans hlv
     rw [Nat.zero_add] at q2
     clear hj2
     gi_wp2
     exact ⟨Fro.refl _ _ _,M,fun b hb => .inl hb,Her.out,hj3.bx,hj3.ib,hj3.pb,hj3.bel,hj3.no⟩
 · intro D M V hD hDl hDm hj hdf
   have h0:=hj.fact
   have e:(2*T.n - 1+1) / 2=T.n:=by omega
   rw [e] at h0
   have q0:=hj.bx.range 0 _ rfl
   have q1:=(hj.bx.there 0 (by simp)).2
   have q2:=hj.ib.range 0 _ rfl
   have q3:=(hj.bel.cell (p:=⟨tb,0,none⟩) htl).trans hlv
   rw [Nat.zero_add] at q0 q1 q2
   clear hit hh hmp
   have Hh0:=Hid.mk' h0
   clear h0
   gi_wp2
   obtain ⟨V1,hV1⟩:∃ V1,V1=V.setCell ⟨w.heap.size+1,0,none⟩ (.bool (decide ((1:Int)<(T.n:Int)))):=⟨_,rfl⟩
   have b1:But (fun b=>b=w.heap.size+1) V V1:=by rw [hV1];exact ⟨rfl,rfl,rfl,by simp,fun b _ hb=>Below.heap_setCell _ _ _ _ hb⟩
   have k1:RW V1 (w.heap.size+1) 0 [.bool (decide ((1:Int)<(T.n:Int)))]:=by rw [hV1];exact hj.bx.stored [_] rfl
   have hdf1:V1.heap[D]? = some (.deferred (some [])):=(b1.block D hDl (by show D≠w.heap.size+1;omega)).trans hdf
   rw [←hV1]
   have hbD:=but_put V1 D (.deferred none)
   have hc:(V1.putObj D (.deferred none)).cell? ⟨w.heap.size+1,0,none⟩=some (.bool (decide ((1:Int)<(T.n:Int)))):=(World.cell?_of_block (w:=V1) (a:=⟨w.heap.size+1,0,none⟩) (hbD.block _ k1.lt (by show w.heap.size+1≠D;omega))).trans (by have:=k1.range 0 _ rfl;rwa [Nat.zero_add] at this)
   refine ⟨by simp,.inl ⟨_,_,rfl,run_takeDeferred hdf1,?_⟩⟩
   have hs1:w.heap.size≤V1.heap.size:=Nat.le_trans hj.bel.size b1.size
   refine ⟨_,results_cellB rfl _ _ (w.heap.size+1) _ rfl hc,?_,(hj.bel.trans (b1.below hj.bel.size (fun k hk=>by omega))).trans (hbD.below hs1 (fun k hk=>by omega))⟩
   unfold tooB
   rw [Hh0.out,Bool.not_false,Bool.and_true]
   rw [show decide ((1:Int)<(T.n:Int))=decide (1<T.n) from by rw [decide_eq_decide];omega]
 · rintro D c M V hD hDl hDm ⟨rfl,hj⟩ hdf
   have h0:=hj.fact
   have Hh0:=Hid.mk' h0
   clear hit hh hmp h0
   gi_wp2
   have hbD:=but_put V D (.deferred none)
   have hc:(V.putObj D (.deferred none)).cell? ⟨w.heap.size+1,0,none⟩=some (.bool false):=(World.cell?_of_block (w:=V) (a:=⟨w.heap.size+1,0,none⟩) (hbD.block _ hj.bx.lt (by show w.heap.size+1≠D;omega))).trans (by have:=hj.bx.range 0 _ rfl;rwa [Nat.zero_add] at this)
   refine ⟨by simp,.inl ⟨_,_,rfl,run_takeDeferred hdf,?_⟩⟩
   refine ⟨_,results_cellB rfl _ _ (w.heap.size+1) _ rfl hc,?_,hj.bel.trans (hbD.below (by have:=hj.pb.lt;omega) (fun k hk=>by omega))⟩
   unfold tooB
   rw [Hh0.out,Bool.not_true,Bool.and_false]
end Go.Proofs.YtddkbmnkbfciaaaGreatDoor
namespace Go.Proofs.YtddkbmnkbfciaaaGreatDoor
open Go.RowKit Go.Shelf
def shrT:Nat→Tr→Tr
 | 0,T=>T
 | f+1,T=>if tooB T then shrT f (halfT T) else T
def remT (T:Tr) (i:Int):Tr:=shrT 7 ⟨T.n,delL (upn T.nd (2*i) none) (pathL i T.n)⟩
theorem cutN_some {n:Int} {F:Int→Option Nd} {x:Int} {d:Nd} (h:cutN n F x=some d):F x=some d∧0≤x∧x<2*n - 1:=by
 unfold cutN at h
 split at h
 · cases h
 · rename_i hc
   refine ⟨h,?_⟩
   unfold offB at hc
   simp only [Bool.or_eq_true,Bool.not_eq_true',decide_eq_false_iff_not,not_or,Classical.not_not] at hc
   exact hc
theorem tooB_n {T:Tr} (h:tooB T=true):1<T.n:=by
 unfold tooB at h
 rw [Bool.and_eq_true,decide_eq_true_eq] at h
 exact h.1
theorem half_may {n:Nat} (h:mayB (n:Int)=true) (h1:1<n):mayB ((n / 2:Nat):Int)=true:=by
 have:=mayB_cases h
 have:n=2∨n=4∨n=8∨n=16∨n=32∨n=64:=by omega
 rcases this with rfl | rfl | rfl | rfl | rfl | rfl <;> rfl
theorem Gd.half {T:Tr} (h:Gd T) (hw:tooB T=true):Gd (halfT T) :=
 ⟨⟨half_may h.ok.may (tooB_n hw),fun _ _ hx=>(cutN_some hx).2,fun x d hx=>h.ok.lf x d (cutN_some hx).1,fun x d hx=>h.ok.pr x d (cutN_some hx).1⟩,fun x d hx=>h.rk x d (cutN_some hx).1,fun x p hx=>h.um x p (cutN_some hx).1⟩
theorem Gd.shr:∀ {f:Nat} {T:Tr},Gd T→Gd (shrT f T)
 | 0,_,h=>h
 | f+1,T,h=>by
  unfold shrT
  by_cases e:tooB T=true
  · rw [if_pos e];exact Gd.shr (h.half e)
  · rw [if_neg e];exact h
theorem TrOK.half {T:Tr} (h:TrOK T) (hw:tooB T=true):TrOK (halfT T) :=
 ⟨half_may h.may (tooB_n hw),fun _ _ hx=>(cutN_some hx).2,fun x d hx=>h.lf x d (cutN_some hx).1,fun x d hx=>h.pr x d (cutN_some hx).1⟩
theorem Gd.rem {T:Tr} (h:Gd T) (i:Int):Gd (remT T i):=by
 refine Gd.shr (Gd.sub (F:=T.nd) (n:=T.n) h (fun x d hx => ?_))
 have h1:=delL_sub _ _ hx
 unfold upn at h1
 split at h1
 · cases h1
 · exact h1
def lvsW (tb:Nat) (w:World):Nat:=match w.cell? ⟨tb,0,none⟩ with
 | some v=>(intOf v).toNat
 | none=>0
theorem TrAt.lvs {ok:Nat→Prop} {w:World} {tb mb:Nat} {T:Tr} (h:TrAt ok w tb mb T):lvsW tb w=T.n:=by
 unfold lvsW;rw [h.lv];simp [intOf]
set_option maxRecDepth 100000 in
set_option maxHeartbeats 4000000 in
theorem tRemove_in (ok:Nat→Prop) (tb mb:Nat) (T:Tr) (hK:TrOK T) (i:Int) (w:World) (hT:DbT w) (h:TrAt ok w tb mb T) (hi:0≤i∧i<T.n) :
 Calls Tryz.prog 36 #[pA tb 0,.int .i64 i] w fun e w'=>(T.nd (2*i)=none∧e = .returned (.int .i64 3)∧Below w.heap.size w w')∨((T.nd (2*i)).isSome=true∧e = .returned (.int .i64 0)∧TrAt ok w' tb mb (remT T i)∧But (fun j=>j=mb∨j=tb) w w'):=by
 have hn64:=hK.n64
 have c:=thasLeaf_any tb T.n i (by omega) w h.lv
 rw [decide_eq_true hi.1,decide_eq_true hi.2] at c
 obtain ⟨L,hL,hlk⟩:=h.look (2*i)
 have Hlk:=Hid.mk' hlk
 have Hh:=Hid.mk' h
 have HT:=Hid.mk' hT
 have HK:=Hid.mk' hK
 have Hn:=Hid.mk' (And.intro hi (And.intro hn64 (And.intro h.tlt h.mlt)))
 clear h hT hi hn64 hlk hK
 go_enter Tryz.func36,Tryz.ntmps36
 go_upto_region 3 with (go_at_call 87;refine c.mono ?_;clear c;rintro e w1 ⟨rfl,hw1⟩;obtain rfl:=hw1.symm)
 obtain ⟨X,hX⟩:∃ X,X=w.drew:=⟨_,rfl⟩
 have bX:Below w.heap.size w X:=by rw [hX];exact (Below.refl _ _).drew
 have HTX:=Hid.mk' (Hh.out.below bX)
 refine wp_region_noPanic ?_
 refine wp_region_held_drew (S:=fun u=>Below X.heap.size X u) (by kernel_rfl) (by rw [hX];exact Below.refl _ _) (fun hS => ?_)
 rw [←hX] at hS ⊢
 clear hX
 refine tg 0 hS ?_
 (try simp only [pS])
 refine tg 1 hS ?_
 (try simp only [pS])
 refine tg 2 hS ?_
 (try simp only [pS])
 refine tc 3 hS (fun u hu=>(HTX.out.below hu).st) ?_
 (try simp only [pS])
 refine tg 4 hS ?_
 (try simp only [pS])
 refine cl 5 (placeOf_any i ⟨Hn.out.1.1,by have:=Hn.out;omega⟩ X) (fun e X2 hr => ?_)
 obtain ⟨rfl,hX2⟩:=hr
 obtain rfl:=hX2.symm
 refine ⟨_,rfl,hS,?_⟩
 (try simp only [pS])
 have hlk:∀ u,Below X.heap.size X u→(Instr.lookup 69 (.map (some mb)) (.int .i64 (2*i)) false).run Tryz.prog u = .ok L u:=fun u hu=>Hlk.out u (below_next bX hu)
 have Hlk2:=Hid.mk' hlk
 clear hlk Hlk hX2
 rcases hL with ⟨hno,rfl⟩ | ⟨nd,hsm,hnd⟩
 · refine tg 6 hS (v := .nilIface) ?_ (hy:=by intro u hu;have q:=Hlk2.out u hu;go_simp)
   (try simp only [pS])
   refine tg 7 hS (v := .bool true) ?_ (hy:=by intro u hu;go_simp)
   (try simp only [pS])
   refine wpAnyH_done (by kernel_rfl) ?_ _
   refine NoPanic.normal ?_
   have Hno:=Hid.mk' hno
   clear Hlk2 HTX Hh HT Hn hno
   go_wp2
   go_ret
   exact .inl ⟨Hno.out,rfl,bX⟩
 · obtain ⟨ty,u0,rfl⟩:=NdOr.form hnd
   refine tg 6 hS (v := .iface ty u0) ?_ (hy:=by intro u hu;have q:=Hlk2.out u hu;go_simp)
   (try simp only [pS])
   refine tg 7 hS (v := .bool false) ?_ (hy:=by intro u hu;go_simp)
   (try simp only [pS])
   refine wpAnyH_done (by kernel_rfl) ?_ _
   refine NoPanic.normal ?_
   have Hsm:=Hid.mk' hsm
   clear Hlk2 hnd hsm hS
   go_upto_region 5 with (fail)
   obtain ⟨Y,hY⟩:∃ Y,Y=X.drew:=⟨_,rfl⟩
   have bY:Below X.heap.size X Y:=by rw [hY];exact (Below.refl _ _).drew
   have bwY:=below_next bX bY
   have hTY:=Hh.out.below bwY
   have hst:∀ u,But (fun j=>j=mb) Y u→u.cell? ⟨tb,1,none⟩=some (.map (some mb)):=fun u hu=>(World.cell?_of_block (w:=Y) (a:=⟨tb,1,none⟩) (hu.block tb hTY.tlt hTY.ne)).trans hTY.st
   obtain ⟨Y2,hdel,hT2,hb2,hs2⟩:=hTY.del (2*i) 0
   refine wp_region_noPanic ?_
   refine wp_region_held_drew (S:=fun u=>But (fun j=>j=mb) Y u) (by kernel_rfl) (by rw [hY];exact But.of_below (Below.refl _ _)) (fun hS => ?_)
   rw [←hY] at hS ⊢
   clear hY
   refine tg 0 hS ?_
   (try simp only [pS])
   refine tg 1 hS ?_
   (try simp only [pS])
   refine tg 2 hS ?_
   (try simp only [pS])
   refine tc 3 hS hst ?_
   (try simp only [pS])
   refine tg 4 hS ?_
   (try simp only [pS])
   refine cl 5 (placeOf_any i ⟨Hn.out.1.1,by have:=Hn.out;omega⟩ Y) (fun e X2 hr => ?_)
   obtain ⟨rfl,hX2⟩:=hr
   obtain rfl:=hX2.symm
   refine ⟨_,rfl,hS,?_⟩
   (try simp only [pS])
   refine onr 6 (ex_delete #[69,3] (.tmp 20) (.tmp 22) rfl rfl rfl hdel) hb2 ?_
   refine wpAnyH_done (by kernel_rfl) ?_ _
   refine NoPanic.normal ?_
   have bt2:But (fun j=>j=mb∨j=tb) w Y2:=(But.of_below bwY).trans (hb2.mono fun _ h => .inl h)
   have cA:=blankAbove_any ok tb mb ⟨T.n,upn T.nd (2*i) none⟩ i Y2 (Hh.out.dbt HT.out bt2) hT2
   have hK0:TrOK ⟨T.n,delL (upn T.nd (2*i) none) (pathL i T.n)⟩:=TrOK.sub (F:=T.nd) HK.out (fun x d hx=>by
    have h1:=delL_sub _ _ hx
    unfold upn at h1
    split at h1
    · cases h1
    · exact h1)
   have HK0:=Hid.mk' hK0
   clear hdel hTY hst hS hX2 hb2 hs2 bY bwY hT2 hK0 HTX bX
   go_wp2_with (go_at_call 103;refine cA.mono ?_;clear cA;rintro e w4 ⟨⟨v4,rfl⟩,hT4,hb4⟩)
   have bt4:=bt2.trans (hb4.mono fun _ h => .inl h)
   clear bt2 hb4
   obtain ⟨T0,hT0⟩:∃ T0:Tr,T0=⟨T.n,delL (upn T.nd (2*i) none) (pathL i T.n)⟩:=⟨_,rfl⟩
   have Hrem:Hid (remT T i=shrT 7 T0):=Hid.mk' (by rw [hT0];rfl)
   have hn0:T0.n≤64:=by have:=Hn.out;rw [hT0];show T.n≤64;omega
   have hT4':TrAt ok w4 tb mb T0:=by rw [hT0];exact hT4
   have hK0:TrOK T0:=by rw [hT0];exact HK0.out
   clear hT4 HK0 hT0
   go_loopw [27] (fun _ wr=>∃ f T',shrT 7 T0=shrT f T'∧T'.n<2 ^ f∧TrOK T'∧TrAt ok wr tb mb T'∧But (fun j=>j=mb∨j=tb) w wr) (fun _ wr=>lvsW tb wr)
   case atStart=>exact ⟨7,T0,rfl,by omega,hK0,hT4',bt4⟩
   case round =>
    obtain ⟨f,T',e1,e2,hK1,hT1,bt1⟩:=hrel
    have cW:=tooWide_any ok tb mb T' hK1 wr hT1
    have hlv:=hT1.lvs
    have Hr:=Hid.mk' (And.intro e1 (And.intro e2 (And.intro hK1 (And.intro hT1 (And.intro bt1 hlv)))))
    clear e1 e2 hT4' hK0 bt4 hn0 bt1 hlv
    by_cases hw:tooB T'=true
    · have cH:=fun (W:World) (hb:Below wr.heap.size wr W)=>halve_any ok tb mb T' hK1 (half_may hK1.may (tooB_n hw)) W (hT1.below hb)
      rw [hw] at cW
      have Hw:=Hid.mk' hw
      clear hK1 hT1 hw
      go_wp2_with (first
       | (go_at_call 79;refine cW.mono ?_;clear cW;rintro e w5 ⟨rfl,hb5⟩)
       | (go_at_call 107;refine (cH w5 hb5).mono ?_;clear cH;rintro e w6 ⟨⟨v6,rfl⟩,hT6,bt6⟩))
      have hq:=Hr.out
      have hn1:=tooB_n Hw.out
      have hn2:=hq.2.2.1.n64
      go_roundw
      case rel =>
       cases f with
       | zero=>have:=hq.2.1;omega
       | succ f =>
        refine ⟨f,halfT T',?_,?_,hq.2.2.1.half Hw.out,hT6,(hq.2.2.2.2.1.trans (But.of_below hb5)).trans bt6⟩
        · rw [hq.1];show (if tooB T'=true then _ else _)=_;rw [if_pos Hw.out]
        · have:=hq.2.1;show T'.n / 2<2 ^ f;have h2:2 ^ (f+1)=2 ^ f*2:=rfl;omega
      case measure =>
       rw [hT6.lvs,hq.2.2.2.2.2];show T'.n / 2<T'.n;omega
    · rw [Bool.eq_false_iff.2 hw] at cW
      have Hw:=Hid.mk' hw
      clear hK1 hT1 hw
      go_wp2_with (go_at_call 79;refine cW.mono ?_;clear cW;rintro e w5 ⟨rfl,hb5⟩)
      go_ret
      have hq:=Hr.out
      have hn2:=hq.2.2.1.n64
      refine .inr ⟨by rw [Hsm.out];rfl,rfl,?_,hq.2.2.2.2.1.trans (But.of_below hb5)⟩
      rw [Hrem.out,hq.1]
      have e3:shrT f T'=T':=by
       cases f with
       | zero=>rfl
       | succ f=>show (if tooB T'=true then _ else _)=_;rw [if_neg Hw.out]
      rw [e3]
      exact hq.2.2.2.1.below hb5
end Go.Proofs.YtddkbmnkbfciaaaGreatDoor
namespace Go.Proofs.YtddkbmnkbfciaaaGreatDoor
open Go.RowKit
set_option maxRecDepth 20000 in
set_option maxHeartbeats 4000000 in
theorem ints_same (a b:Value) (l:List Int) (hl:l.length≤1000) (w:World) (ha:ZIn w a l) (hb:ZIn w b l):Calls Tryz.prog 26 #[a,b] w fun e w'=>e = .returned (.bool true)∧Below w.heap.size w w':=by
 obtain ⟨xa,ca,rfl,fa⟩:=ha
 obtain ⟨xb,cb,rfl,fb⟩:=hb
 have FA:=Hid.mk' fa
 have FB:=Hid.mk' fb
 clear fa fb
 obtain ⟨n,hn⟩:∃ n,n=l.length:=⟨_,rfl⟩
 rw [←hn] at hl ⊢
 have HN:=Hid.mk' hn
 clear hn
 go_enter Tryz.func26,Tryz.ntmps26
 go_wp2
 go_loopw [5] (fun i wr=>∃ q:Nat,q≤n∧i = .int .i64 (q:Int)∧Below w.heap.size w wr) (fun i _=>n - (intOf i).toNat)
 case atStart=>exact ⟨0,Nat.zero_le _,rfl,Below.refl _ _⟩
 case round =>
  obtain ⟨q,hq,rfl,hbw⟩:=hrel
  by_cases hlt:q<n
  · have hz:l[q]? = some l[q]!:=by
     have hql:q<l.length:=by rw [←HN.out];exact hlt
     rw [List.getElem?_eq_getElem hql]
     simp [hql]
    obtain ⟨ga,oa,rfl,la,r1⟩:=FA.out q _ hz
    obtain ⟨gb,ob,rfl,lb,r2⟩:=FB.out q _ hz
    obtain ⟨z,hz'⟩:∃ z,z=l[q]!:=⟨_,rfl⟩
    rw [←hz'] at r1 r2
    have t0:(q:Int)<(n:Int):=by omega
    have t1:(0:Int)≤(q:Int)∧(q:Int)<(n:Int):=by omega
    have t9:IntKind.i64.wrap ((q:Int)+1)=(q:Int)+1:=by simp only [IntKind.wrap_i64];omega
    have bd:Below wr.heap.size wr wr.drew:=(Below.refl _ _).drew
    have bW:=below_next hbw bd
    have s1:∀ u,Below wr.drew.heap.size wr.drew u→u.cell? ⟨ga,oa+q,none⟩=some (.int .i64 z):=fun u hu=>((below_next bW hu).cell (p:=⟨ga,oa+q,none⟩) la).trans r1
    have s2:∀ u,Below wr.drew.heap.size wr.drew u→u.cell? ⟨gb,ob+q,none⟩=some (.int .i64 z):=fun u hu=>((below_next bW hu).cell (p:=⟨gb,ob+q,none⟩) lb).trans r2
    clear hz hz' r1 r2
    go_upto_region 6 with (fail)
    refine wp_region_held_drew (S:=fun u=>Below wr.drew.heap.size wr.drew u) (by kernel_rfl) (Below.refl _ _) (fun hS => ?_)
    refine tg 0 hS ?_
    (try simp only [pS])
    refine tg 1 hS ?_
    (try simp only [pS])
    refine tg 2 hS ?_
    (try simp only [pS])
    refine tc 3 hS (fun u hu=>s1 u hu) ?_
    (try simp only [pS])
    refine tg 4 hS ?_
    (try simp only [pS])
    refine tg 5 hS ?_
    (try simp only [pS])
    refine tg 6 hS ?_
    (try simp only [pS])
    refine tc 7 hS (fun u hu=>s2 u hu) ?_
    (try simp only [pS])
    refine tg 8 hS (v := .bool false) ?_
    (try simp only [pS])
    refine wpAnyH_done (by kernel_rfl) ?_ _
    go_wp2
    go_roundw
    case rel=>exact ⟨q+1,hlt,by go_num,bW⟩
    case measure=>simp [intOf];omega
  · obtain rfl:q=n:=by omega
    have t0:¬(q:Int)<(q:Int):=by omega
    go_wp2
    go_ret
    exact ⟨rfl,hbw⟩
end Go.Proofs.YtddkbmnkbfciaaaGreatDoor
