/- What the proof stands on: PNum, Api, Prime, ZD. -/
import Derived.Test.YtibdhadbflfdpaaGreatDoorD1RBM
import Derived.Test.YtibdhadbflfdpaaGreatDoorIRowM
import Derived.Test.YtibdhadbflfdpaaGreatDoorL5AM
import Derived.Test.YtibdhadbflfdpaaGreatDoorNumberM
import Derived.Laws.StructEq
namespace Go.Proofs.YtibdhadbflfdpaaGreatDoor
open Go.RowKit
theorem fresh4' (w:World):RW (w.alloc (.cells #[.int .u64 0,.int .u64 0,.int .u64 0,.int .u64 0] 75)) w.heap.size 0 (c4 0):=by
 rw [c4_zero];exact RW.fresh w _ _
theorem num_store {o:Oper} {a:Act} {cur V:World} {K:Act→World→Prop} {Q:Exit→Act→World→Prop} (x y:Operand) (ho:o.op = .store 75 x y) (g m n:Nat) (hx:a.eval x = .pointer (some ⟨g,0,none⟩)) (hy:a.eval y=numV n) (r:RW cur g 0 (c4 m)) (S:Below V.heap.size V cur) (G:V.heap.size≤g)
 (h:∀ W1,RW W1 g 0 (c4 n)→Below V.heap.size V W1→(∀ b p cs,b≠g→RW cur b p cs→RW W1 b p cs)→K (a.put o.dst undef) W1):o.wp Tryz.prog a cur K Q :=
 wp_store_mid 75 x y ho g 0 (c4 n).toArray hx hy r.there info4 (one4 n) (h _ (r.stored (c4 n) rfl) (below_setCells G _ _ _ S) (fun _ _ _ hne hr=>hr.far g 0 (c4 n) (.inl hne)))
section
variable {md:Region.Mode} {ops:Array Oper} {Q:Exit→Act→World→Prop} {fuel:Nat} {listed:Array Bool} {a:Act} {w V:World}
theorem arN {i:Nat} {rs:List Nat} (oi:Oper) (hS:Below V.heap.size V w) (h:∀ w1 g,V.heap.size≤g→w.heap.size≤g→Below w.heap.size w w1→RW w1 g 0 (c4 0)→Below V.heap.size V w1→wpAnyH Tryz.prog md ops Q (fun u=>Below V.heap.size V u) fuel (listed.setIfInBounds i true) (a.put oi.dst (pA g 0)) w1) (hs:AllReadyH Tryz.prog md ops Q (fun u=>Below V.heap.size V u) fuel listed a w rs)
 (hrun:(execOp a.eval oi).run Tryz.prog w = .ok (.value (pA w.heap.size 0)) (w.alloc (.cells #[.int .u64 0,.int .u64 0,.int .u64 0,.int .u64 0] 75)):=by kernel_rfl) (hi:ops[i]? = some oi:=by rfl) (hw:Region.wanted oi (yielded ops a.tmps)=true:=by rfl):AllReadyH Tryz.prog md ops Q (fun u=>Below V.heap.size V u) fuel listed a w (i :: rs) :=
 have hb:Below w.heap.size w (w.alloc (.cells #[.int .u64 0,.int .u64 0,.int .u64 0,.int .u64 0] 75)):=bR.alloc (Nat.le_refl _) _
 arA oi ⟨below_next hS hb,h _ _ hS.size (Nat.le_refl _) hb (fresh4' w) (below_next hS hb)⟩ hs hrun hi hw
theorem arS {i:Nat} {rs:List Nat} (oi:Oper) (x y:Nat) {g m:Nat} (n:Nat) (r:RW w g 0 (c4 m)) (hS:Below V.heap.size V w) (G:V.heap.size≤g) (h:∀ w1,RW w1 g 0 (c4 n)→Below V.heap.size V w1→(∀ b p cs,b≠g→RW w b p cs→RW w1 b p cs)→wpAnyH Tryz.prog md ops Q (fun u=>Below V.heap.size V u) fuel (listed.setIfInBounds i true) (a.put oi.dst undef) w1) (hs:AllReadyH Tryz.prog md ops Q (fun u=>Below V.heap.size V u) fuel listed a w rs)
 (ho:oi.op = .store 75 (.tmp x) (.tmp y):=by rfl) (hx:a.eval (.tmp x) = .pointer (some ⟨g,0,none⟩):=by rfl) (hy:a.eval (.tmp y)=numV n:=by rfl) (hi:ops[i]? = some oi:=by rfl) (hw:Region.wanted oi (yielded ops a.tmps)=true:=by rfl):AllReadyH Tryz.prog md ops Q (fun u=>Below V.heap.size V u) fuel listed a w (i :: rs):=by
 refine AllReadyH.cons hi (fun K hK => ?_) hs
 rw [if_pos hw]
 exact num_store _ _ ho g m n hx hy r hS G (fun w1 r1 hS1 far=>hK.out _ _ hS1 (fun _=>h w1 r1 hS1 far))
theorem ldN {o:Oper} {g off n:Nat} (h:RW V g off (c4 n)) (k:Nat) (hw:Region.wanted o (yielded ops a.tmps)=true:=by rfl) (ho:o.op = .load 75 (.tmp k):=by rfl) (hx:a.eval (.tmp k) = .pointer (some ⟨g,off,none⟩):=by rfl):YieldsIf Tryz.prog ops (fun w'=>Below V.heap.size V w') o (numV n) a :=
 ldH h 75 k Tryz.underlying75 info4 rfl hw ho hx
end
theorem fresh4t (w:World) (n:Nat):(w.alloc (.cells #[.int .u64 0,.int .u64 0,.int .u64 0,.int .u64 0] 75)).there w.heap.size 0 (c4 n).toArray.size:=(fresh4' w).there
theorem info4a (n:Nat):(Tryz.prog.info? 75).map (·.size)=some (c4 n).toArray.size:=info4
theorem yields_build2 {P:Program} {ops:Array Oper} {S:World→Prop} {o:Oper} {a:Act} (hw:Region.wanted o (yielded ops a.tmps)=true) (t:TypeId) (i j:Nat) (x y:Operand) (ho:o.op = .build t #[(i,x),(j,y)]) (u v:Value) (hx:a.eval x=u) (hy:a.eval y=v) (cells:Array Value)
 (hf:P.built t [(i,u),(j,v)]=some cells):YieldsIf P ops S o (.agg cells) a:=by
 refine .inl ⟨hw,fun w _ => ?_⟩
 unfold execOp
 simp only [ho,List.map_toArray,List.map_cons,List.map_nil,hx,hy]
 rw [Sem.run_bind,run_build w t _ cells hf]
 rfl
end Go.Proofs.YtibdhadbflfdpaaGreatDoor
namespace Go.Proofs.YtibdhadbflfdpaaGreatDoor
open Go.RowKit
def NewB (w w':World) (v:Value) (n:Nat) (X:Nat→Nat):Prop:=∃ g,v = .slice (some ⟨g,0,none⟩) n n∧w.heap.size≤g∧RowAt .u8 w' g 0 n X
theorem NewB.bytes {w w':World} {v:Value} {n:Nat} {X:Nat→Nat} (h:NewB w w' v n X) (h0:0<n):BytesIn w' v n X:=by
 obtain ⟨g,rfl,-,hr⟩:=h
 exact .inr ⟨g,0,n,rfl,block_lt_of_cell (hr 0 h0).1,Nat.le_refl _,fun j hj=>(hr j hj).1⟩
end Go.Proofs.YtibdhadbflfdpaaGreatDoor
namespace Go.Proofs.YtibdhadbflfdpaaGreatDoor
def pm (N a:Nat):Nat→Nat→Nat
 | 0,_=>1%N
 | k+1,e=>pm N a k (e / 2) ^ 2%N*a ^ (e%2)%N
end Go.Proofs.YtibdhadbflfdpaaGreatDoor
namespace Go.Proofs.YtibdhadbflfdpaaGreatDoor
open Go.RowKit
section
variable {P:Program} {md:Region.Mode} {ops:Array Oper} {Q:Exit→Act→World→Prop} {S:World→Prop} {fuel:Nat} {listed:Array Bool} {a:Act} {w:World}
theorem aG {i:Nat} {rs:List Nat} (oi:Oper) (v:Nat→Value) (cs:List Value) (t:TypeId) (hk:∀ u,Below w.heap.size w u→S u) (h:∀ w1 g,w.heap.size≤g→Below w.heap.size w w1→RW w1 g 0 cs→wpAnyH P md ops Q S fuel (listed.setIfInBounds i true) (a.put oi.dst (v g)) w1) (hs:AllReadyH P md ops Q S fuel listed a w rs)
 (hrun:(execOp a.eval oi).run P w = .ok (.value (v w.heap.size)) (w.alloc (.cells cs.toArray t)):=by kernel_rfl) (hi:ops[i]? = some oi:=by rfl) (hw:Region.wanted oi (yielded ops a.tmps)=true:=by rfl):AllReadyH P md ops Q S fuel listed a w (i :: rs):=by
 have hb:Below w.heap.size w (w.alloc (.cells cs.toArray t)):=bR.alloc (Nat.le_refl _) _
 refine AllReadyH.cons hi (fun K hK => ?_) hs
 rw [if_pos hw]
 unfold Oper.wp
 rw [hrun,Oper.upon_value]
 exact hK.out _ _ (hk _ hb) (fun _=>h _ _ (Nat.le_refl _) hb (RW.fresh w cs t))
theorem aL {i:Nat} {rs:List Nat} (oi:Oper) (ty k:Nat) {g off:Nat} {cs:List Value} {d:TypeDesc} (r:RW w g off cs) (hS:S w) (hu:P.underlying ty=some d) (hin:(P.info? ty).map (·.size)=some cs.length) (h:wpAnyH P md ops Q S fuel (listed.setIfInBounds i true) (a.put oi.dst (.agg cs.toArray)) w) (hs:AllReadyH P md ops Q S fuel listed a w rs)
 (hd:d.isRow=true:=by rfl) (ho:oi.op = .load ty (.tmp k):=by rfl) (hx:a.eval (.tmp k) = .pointer (some ⟨g,off,none⟩):=by rfl) (hi:ops[i]? = some oi:=by rfl) (hw:Region.wanted oi (yielded ops a.tmps)=true:=by rfl):AllReadyH P md ops Q S fuel listed a w (i :: rs):=by
 refine AllReadyH.cons hi (fun K hK => ?_) hs
 rw [if_pos hw]
 exact wp_load_mid ty _ ho g off hx cs d r.range hu hd hin (hK.out _ _ hS (fun _=>h))
theorem aT {i:Nat} {rs:List Nat} (oi:Oper) (ty x y:Nat) {g off:Nat} {cs:List Value} (ds:List Value) (r:RW w g off cs) (hl:ds.length=cs.length) (hk:S (w.setCells g off ds)) (hin:(P.info? ty).map (·.size)=some ds.toArray.size) (h1:ds.toArray.all (·.oneCell')=true) (h:RW (w.setCells g off ds) g off ds→wpAnyH P md ops Q S fuel (listed.setIfInBounds i true) (a.put oi.dst undef) (w.setCells g off ds)) (hs:AllReadyH P md ops Q S fuel listed a w rs)
 (ho:oi.op = .store ty (.tmp x) (.tmp y):=by rfl) (hx:a.eval (.tmp x) = .pointer (some ⟨g,off,none⟩):=by rfl) (hy:a.eval (.tmp y) = .agg ds.toArray:=by rfl) (hi:ops[i]? = some oi:=by rfl) (hw:Region.wanted oi (yielded ops a.tmps)=true:=by rfl):AllReadyH P md ops Q S fuel listed a w (i :: rs):=by
 refine AllReadyH.cons hi (fun K hK => ?_) hs
 rw [if_pos hw]
 exact wp_store_mid ty _ _ ho g off ds.toArray hx hy (by rw [List.size_toArray,hl];exact r.there) hin h1 (hK.out _ _ hk (fun _=>h (r.stored ds hl)))
end
end Go.Proofs.YtibdhadbflfdpaaGreatDoor
