/- SetPath of package tree: what its second range stands on. -/
import Derived.Test.YtddkbmnkbfciaaaGreatDoorT4PM
import Derived.Test.YtddkbmnkbfciaaaGreatDoorT5KM
namespace Go.Proofs.YtddkbmnkbfciaaaGreatDoor
open Go.RowKit Go.Shelf
theorem St2.keep {B:Nat} {V:World} {v1 v2:Value} {U U':World} {a1:Value} {m1:List Int} {a2:Value} {m2:List Int} (h:St2 B V v1 v2 U a1 m1 a2 m2) (b:Below U.heap.size U U'):St2 B V v1 v2 U' a1 m1 a2 m2 :=
 ⟨h.o1.below b,h.o2.below b,h.bt.trans (But.of_below b),h.q1,h.q2,h.ap,Nat.le_trans h.bs b.size⟩
theorem filB_skip {T:Tr} {xs ys:List Int} {k:Nat} (h:filA T xs ys k=none):filK T xs ys (k+1)=filK T xs ys k∧filB T xs ys (k+1)=filB T xs ys k:=by
 unfold filA at h
 rw [filK,filB]
 split at h
 · rename_i hc;rw [if_pos hc,if_pos hc,List.append_nil,List.append_nil];exact ⟨rfl,rfl⟩
 · cases h
theorem filB_more {T:Tr} {xs ys:List Int} {k:Nat} {a:Array Value} (h:filA T xs ys k=some a):filK T xs ys (k+1)=filK T xs ys k ++ [(xs[k]?).getD 0]∧filB T xs ys (k+1)=filB T xs ys k ++ [(ys[k]?).getD 0]∧a=#[.int .i64 ((xs[k]?).getD 0),.int .i64 ((ys[k]?).getD 0)]:=by
 unfold filA at h
 rw [filK,filB]
 split at h
 · cases h
 · rename_i hc;rw [if_neg hc,if_neg hc];cases h;exact ⟨rfl,rfl,rfl⟩
theorem SpJ.start {w:World} {B wb sb:Nat} {L:List (Nat × Value)} {W:World} (h1:RW W wb 0 [.slice none 0 0]) (h2:RW W sb 0 [.slice none 0 0]) (hb:∀ q∈L,RW W q.1 0 [q.2]) (h:Below w.heap.size w W) (hs:B≤W.heap.size):SpJ w B wb sb L [] [] (fun _=>False) W :=
 ⟨⟨.slice none 0 0,.slice none 0 0,h1,h2,⟨rfl,.inl ⟨rfl,rfl⟩⟩,⟨rfl,.inl ⟨rfl,rfl⟩⟩,(fun _ e=>by cases e),(fun _ e=>by cases e),.inl rfl⟩,hb,h,(fun _ e=>e.elim),hs⟩
structure SqJ (w:World) (B D1 tB kB cb sb hb tb mb:Nat) (kv wv sv:Value) (ks:List Tx) (n:Nat) (xs ss:List Int) (ok:Nat→Prop) (F0:Int→Option Nd) (k:Nat) (M:Nat→Prop) (W:World):Prop where
 kT:RW W tB 0 [pA tb 0]
 kK:RW W kB 0 [kv]
 kC:RW W cb 0 [wv]
 kS:RW W sb 0 [sv]
 zW:ZO (fun b=>w.heap.size≤b∧b<hb) W wv xs
 zS:ZO (fun b=>w.heap.size≤b∧b<hb) W sv ss
 tr:∃ f,TrF (fun b=>ok b∨M b) W tb mb n f (spS n xs ss ks F0 k).1
 hs:∃ hv,RW W hb 0 [hv]∧BO M W hv (spS n xs ss ks F0 k).2.n (spS n xs ss ks F0 k).2.b
 df:W.heap[D1]? = some (.deferred (some []))
 bt:But (fun j=>j=mb) w W
 mB:∀ b,M b→B≤b
 sz:B≤W.heap.size
theorem SqJ.loc {w:World} {B D1 tB kB cb sb hb tb mb:Nat} {kv wv sv:Value} {ks:List Tx} {n:Nat} {xs ss:List Int} {ok:Nat→Prop} {F0:Int→Option Nd} {k:Nat} {M:Nat→Prop} {W W':World} (h:SqJ w B D1 tB kB cb sb hb tb mb kv wv sv ks n xs ss ok F0 k M W) (hL:Loc B M W W') (h1:tB<B∧kB<B∧cb<B∧sb<B∧hb<B∧tb<B∧mb<B∧D1<B) (h2:∀ b,ok b→b<B) (hw:w.heap.size≤B):SqJ w B D1 tB kB cb sb hb tb mb kv wv sv ks n xs ss ok F0 k M W':=by
 obtain ⟨f,hf⟩:=h.tr
 obtain ⟨hv,q1,q2⟩:=h.hs
 have hsz:=h.sz
 refine ⟨hL.rw h.kT (.inl h1.1),hL.rw h.kK (.inl h1.2.1),hL.rw h.kC (.inl h1.2.2.1),hL.rw h.kS (.inl h1.2.2.2.1),h.zW.same hL.size (fun b hb ho=>hL.block b hb (.inl (by omega))),h.zS.same hL.size (fun b hb ho=>hL.block b hb (.inl (by omega))),⟨f,hf.same hL.size (fun b hb ho=>hL.block b hb ?_)⟩,⟨hv,hL.rw q1 (.inl h1.2.2.2.2.1),q2.same hL.size (fun b hb ho=>hL.block b hb (.inr ho))⟩,(hL.block D1 (by omega) (.inl (by omega))).trans h.df,hL.but w hw (Nat.le_trans hw hsz) h.bt,h.mB,Nat.le_trans hsz hL.size⟩
 rcases ho with (ho | ho) | ho | ho
 · exact .inl (h2 b ho)
 · exact .inr ho
 · exact .inl (by omega)
 · exact .inl (by omega)
theorem SqJ.next {w:World} {B D1 tB kB cb sb hb tb mb:Nat} {kv wv sv:Value} {ks:List Tx} {n:Nat} {xs ss:List Int} {ok:Nat→Prop} {F0:Int→Option Nd} {k k':Nat} {M M':Nat→Prop} {W W':World} (h:SqJ w B D1 tB kB cb sb hb tb mb kv wv sv ks n xs ss ok F0 k M W) (hb2:But (fun j=>j=mb∨j=hb) W W')
 (h2:w.heap.size≤tB∧w.heap.size≤kB∧w.heap.size≤cb∧w.heap.size≤sb∧w.heap.size≤D1∧w.heap.size≤hb) (h3:tB≠hb∧kB≠hb∧cb≠hb∧sb≠hb∧D1≠hb) (h4:D1<B) (hmw:mb<w.heap.size)
 (tr:∃ f,TrF (fun b=>ok b∨M' b) W' tb mb n f (spS n xs ss ks F0 k').1) (hs:∃ hv,RW W' hb 0 [hv]∧BO M' W' hv (spS n xs ss ks F0 k').2.n (spS n xs ss ks F0 k').2.b) (mB:∀ b,M' b→B≤b):SqJ w B D1 tB kB cb sb hb tb mb kv wv sv ks n xs ss ok F0 k' M' W':=by
 have hsz:=h.sz
 have hws:=h.bt.size
 refine ⟨h.kT.but hb2 (by omega),h.kK.but hb2 (by omega),h.kC.but hb2 (by omega),h.kS.but hb2 (by omega),h.zW.same hb2.size (fun b hb ho=>hb2.block b hb (by omega)),h.zS.same hb2.size (fun b hb ho=>hb2.block b hb (by omega)),tr,hs,(hb2.block D1 (by omega) (by omega)).trans h.df,⟨hb2.os.trans h.bt.os,hb2.tape.trans h.bt.tape,hb2.output.trans h.bt.output,Nat.le_trans hws hb2.size,fun b hb hn=>(hb2.block b (by omega) (by omega)).trans (h.bt.block b hb hn)⟩,mB,Nat.le_trans hsz hb2.size⟩
end Go.Proofs.YtddkbmnkbfciaaaGreatDoor
