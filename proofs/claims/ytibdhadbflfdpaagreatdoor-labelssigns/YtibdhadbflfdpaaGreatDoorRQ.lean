/- Rows of the reference's points: four numbers; sums and differences in the wider class of limbs. -/
import Derived.Test.YtibdhadbflfdpaaGreatDoorNNumM
import Derived.Test.YtibdhadbflfdpaaGreatDoorPNumM
import Derived.Test.YtibdhadbflfdpaaGreatDoorPtBM
namespace Go.Proofs.YtibdhadbflfdpaaGreatDoor
open Go.RowKit
theorem i7 {L M:Nat→Int} {x y:Nat} (hL:Rw L x) (hM:Rw M y):Rw (yH L M) (fj x y):=by
 have hb:∀ j,j<16→-131450≤L j+M j∧L j+M j≤131450:=fun j hj=>by
  have h1:=hL.dig.all (by decide) j hj;have h2:=hM.dig.all (by decide) j hj;omega
 refine ⟨(eL _ 131450 (by decide) hb).mono (by decide),?_⟩
 have e:aQ (fun j=>L j+M j) 16=aQ L 16+aQ M 16:=by
  have:=jb L M 1 16;simp only [Int.one_mul] at this;exact this
 unfold yH fj;rw [bI,e,show ∀ a b P:Int,a - b*2*P=a+P*(-(b*2)) from fun a b P=>by rw [Int.mul_neg,Int.mul_comm P];omega,Int.add_mul_emod_self_left,Int.add_emod,hL.val,hM.val,←Int.natCast_add,dI,←Nat.add_mod,Nat.mod_mod]
theorem eG {L M:Nat→Int} {x y:Nat} (hL:Rw L x) (hM:Rw M y) (hy:y<pF):Rw (bC L M) (cj x y):=by
 have hb:∀ j,j<16→-131450≤L j - M j∧L j - M j≤131450:=fun j hj=>by
  have h1:=hL.dig.all (by decide) j hj;have h2:=hM.dig.all (by decide) j hj;omega
 refine ⟨(eL _ 131450 (by decide) hb).mono (by decide),?_⟩
 have e:aQ (fun j=>L j - M j) 16=aQ L 16 - aQ M 16:=by
  have:=jb L M (-1) 16;simp only [Int.neg_mul,Int.one_mul,←Int.sub_eq_add_neg] at this;exact this
 unfold bC cj;rw [bI,e,show ∀ a b P:Int,a - b*2*P=a+P*(-(b*2)) from fun a b P=>by rw [Int.mul_neg,Int.mul_comm P];omega,Int.add_mul_emod_self_left,Int.sub_emod,hL.val,hM.val,←dI,←dI,←Int.sub_emod,Nat.mod_mod,←dI,show ((x+pF - y:Nat):Int)=((x:Int) - (y:Int))+(pF:Int)*1 by omega,Int.add_mul_emod_self_left]
theorem vr (A:Nat→Int) (a:Nat) (hA:Rw A a) (ha:a<pF) (w:World):Calls Tryz.prog 118 #[.agg (aD A).toArray] w fun e w'=>∃ v,e = .returned v∧bx w.heap.size w' v 32 (bf a)∧Below w.heap.size w w':=by
 have h:=og A (hA.dig.mono (by decide)) a hA.val w;rw [Nat.mod_eq_of_lt ha] at h;exact h
def aW (X Y Z T:Nat→Int):List Value:=aD X ++ (aD Y ++ (aD Z ++ aD T))
def qV (X Y Z T:Nat→Int):Value := .agg (aW X Y Z T).toArray
theorem ge (X Y Z T:Nat→Int):(aW X Y Z T).length=64:=by
 unfold aW;rw [List.length_append,List.length_append,List.length_append,ao,ao,ao,ao]
def zQ:Array Value:=Array.replicate 64 (.int .i64 0)
theorem jd (w:World):Sem.run Tryz.prog (zeroValue 94) w = .ok (.agg zQ) w:=by kernel_rfl
theorem Bu:(Tryz.prog.info? 94).map (·.size)=some 64:=by kernel_rfl
theorem Ga:zQ=(aW (fun _=>0) (fun _=>0) (fun _=>0) (fun _=>0)).toArray:=by kernel_rfl
theorem mv (w:World):∃ w' g,w.alloc (.cells zQ 94)=w'∧w.heap.size=g∧Below w.heap.size w w'∧RW w' g 0 (aW (fun _=>0) (fun _=>0) (fun _=>0) (fun _=>0)):=by
 refine ⟨_,_,rfl,rfl,(Below.refl _ _).alloc (Nat.le_refl _) _,?_⟩;rw [Ga];exact RW.fresh w _ _
theorem eT (w:World):RW (w.alloc (.cells zQ 94)) w.heap.size 0 (aW (fun _=>0) (fun _=>0) (fun _=>0) (fun _=>0)):=by rw [Ga];exact RW.fresh w _ _
theorem dQ (X Y Z T:Nat→Int):(Tryz.prog.info? 94).map (·.size)=some (aW X Y Z T).length:=by rw [ge];exact Bu
theorem bt (X Y Z T:Nat→Int):(Tryz.prog.info? 94).map (·.size)=some (aW X Y Z T).toArray.size:=by rw [List.size_toArray,ge];exact Bu
theorem eq (X Y Z T:Nat→Int):(aW X Y Z T).toArray.all (·.oneCell')=true:=all_oneCell_toArray (fun v hv=>by
 unfold aW at hv
 rcases List.mem_append.1 hv with h | h
 · exact gO 16 X v h
 · rcases List.mem_append.1 h with h | h
   · exact gO 16 Y v h
   · rcases List.mem_append.1 h with h | h
     · exact gO 16 Z v h
     · exact gO 16 T v h)
theorem bj {w:World} {g:Nat} {X Y Z T X' Y' Z' T':Nat→Int} (r:RW w g 0 (aW X Y Z T)):w.there g 0 (aW X' Y' Z' T').toArray.size:=by
 have h:=r.there;rw [ge] at h
 have e:(aW X' Y' Z' T').toArray.size=64:=by rw [List.size_toArray];exact ge _ _ _ _
 rw [e];exact h
theorem tn {w:World} {g:Nat} {X X':Nat→Int} (r:RW w g 0 (aD X)):w.there g 0 (aD X').toArray.size:=by
 have h:=r.there;rw [ao] at h
 have e:(aD X').toArray.size=16:=by rw [List.size_toArray];exact ao _
 rw [e];exact h
theorem bk (X Y Z T X' Y' Z' T':Nat→Int):(aW X Y Z T).length=(aW X' Y' Z' T').length:=by rw [ge,ge]
theorem parts {w:World} {g:Nat} {X Y Z T:Nat→Int} (r:RW w g 0 (aW X Y Z T)):RW w g 0 (aD X)∧RW w g 16 (aD Y)∧RW w g 32 (aD Z)∧RW w g 48 (aD T):=by
 have h1:=RW.right r;rw [ao] at h1;have h2:=RW.right h1;rw [ao] at h2;have h3:=RW.right h2;rw [ao] at h3;exact ⟨RW.left r,RW.left h1,RW.left h2,h3⟩
theorem CJ (X Y Z T:Nat→Int):Tryz.prog.built 94 [(0,rV X),(1,rV Y),(2,rV Z),(3,rV T)]=some (aW X Y Z T).toArray:=by kernel_rfl
theorem eR {P:Program} {ops:Array Oper} {S:World→Prop} {o:Oper} {a:Act} (hw:Region.wanted o (yielded ops a.tmps)=true) (t:TypeId) (x y z u:Operand) (ho:o.op = .build t #[(0,x),(1,y),(2,z),(3,u)]) (a0 a1 a2 a3:Value) (h0:a.eval x=a0) (h1:a.eval y=a1) (h2:a.eval z=a2) (h3:a.eval u=a3) (cells:Array Value)
 (hf:P.built t [(0,a0),(1,a1),(2,a2),(3,a3)]=some cells):YieldsIf P ops S o (.agg cells) a:=by
 refine .inl ⟨hw,fun w _ => ?_⟩;unfold execOp;simp only [ho,List.map_toArray,List.map_cons,List.map_nil,h0,h1,h2,h3];rw [Sem.run_bind,run_build w t _ cells hf];rfl
structure P4 where
 X:Nat→Int
 Y:Nat→Int
 Z:Nat→Int
 T:Nat→Int
structure P4.Rep (r:P4) (p:N4):Prop where
 X:Rw r.X p.X
 Y:Rw r.Y p.Y
 Z:Rw r.Z p.Z
 T:Rw r.T p.T
def P4.V (r:P4):Value:=qV r.X r.Y r.Z r.T
end Go.Proofs.YtibdhadbflfdpaaGreatDoor
