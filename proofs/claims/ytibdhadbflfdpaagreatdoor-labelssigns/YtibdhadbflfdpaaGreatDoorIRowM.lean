/- What the proof stands on: IRow, ICar. -/
import Derived.Test.YtibdhadbflfdpaaGreatDoorLentM
import Derived.Test.YtibdhadbflfdpaaGreatDoorWordsM
namespace Go.Proofs.YtibdhadbflfdpaaGreatDoor
open Go.RowKit
def ap (w:World) (g n:Nat) (L:Nat→Int):Prop:=∀ j,j<n→w.cell? ⟨g,j,none⟩=some (.int .i64 (L j))∧w.frozen? ⟨g,j,none⟩=false
def af (n:Nat) (L:Nat→Int):List Value:=(List.range n).map fun j => .int .i64 (L j)
theorem bl (n:Nat) (L:Nat→Int):(af n L).length=n:=by simp [af]
theorem an (n:Nat) (L:Nat→Int):(af n L).toArray.size=n:=by simp [af]
theorem oK (n:Nat) (L:Nat→Int) (j:Nat) (h:j<n):(af n L)[j]? = some (.int .i64 (L j)):=by simp [af,h]
theorem gO (n:Nat) (L:Nat→Int):∀ v∈af n L,v.oneCell'=true:=fun v hv=>by
 simp only [af,List.mem_map] at hv;obtain ⟨j,_,rfl⟩:=hv;rfl
def bZ (L:Nat→Int):Value := .agg (af 16 L).toArray
theorem ap.below {B:Nat} {w w':World} {g n:Nat} {L:Nat→Int} (h:ap w g n L) (hb:Below B w w') (hB:g<B):ap w' g n L:=fun j hj =>
 ⟨(hb.cell (p:=⟨g,j,none⟩) hB).trans (h j hj).1,(hb.frozen (p:=⟨g,j,none⟩) hB).trans (h j hj).2⟩
theorem ap.congr {w:World} {g n:Nat} {L M:Nat→Int} (h:ap w g n L) (e:∀ j,j<n→L j=M j):ap w g n M:=fun j hj=>by rw [←e j hj];exact h j hj
theorem ap.drew {w:World} {g n:Nat} {L:Nat→Int} (h:ap w g n L):ap w.drew g n L:=fun j hj=>h j hj
def ef (L:Nat→Int) (i:Nat) (v:Int):Nat→Int:=fun j=>if j=i then v else L j
theorem ap.set {w:World} {g n:Nat} {L:Nat→Int} (h:ap w g n L) {i:Nat} (hi:i<n) (v:Int):ap (w.setCell ⟨g,i,none⟩ (.int .i64 v)) g n (ef L i v):=fun j hj=>by
 obtain ⟨h1,h2⟩:=h j hj
 by_cases e:j=i
 · subst e
   refine ⟨?_,?_⟩
   · have:=World.rangeAt_setCells_same w g j [.int .i64 v] (fun k hk=>by
      have:k=0:=by simpa using hk
      subst this
      rw [Nat.add_zero,h1];exact ⟨rfl,h2⟩) 0 _ rfl
     simp only [ef,if_true];exact this
   · exact (World.frozen?_setCells g [.int .i64 v] j w _).trans h2
 · refine ⟨?_,(World.frozen?_setCells g [.int .i64 v] i w _).trans h2⟩
   simp only [ef,if_neg e];rw [←h1];exact World.cell?_setCells_out g [.int .i64 v] i w _ (fun _ _=>by show j<i∨i+1≤j;omega)
theorem ap.far {w:World} {g n:Nat} {L:Nat→Int} (h:ap w g n L) {a:Addr} (ha:a.block≠g) (v:Value):ap (w.setCell a v) g n L:=fun j hj=>by
 have hk:(w.setCell a v).heap[g]? = w.heap[g]?:=Below.heap_setCell w a v g (Ne.symm ha);exact ⟨(World.cell?_of_block (w:=w) hk).trans (h j hj).1,(World.frozen?_of_block (w:=w) hk).trans (h j hj).2⟩
theorem ap.range {w:World} {g n:Nat} {L:Nat→Int} (h:ap w g n L):w.rangeAt g 0 (af n L):=fun j v hv=>by
 have hj:j<n:=by have:=(List.getElem?_eq_some_iff.1 hv).1;rwa [bl] at this
 rw [oK _ _ j hj] at hv;cases hv;rw [Nat.zero_add];exact (h j hj).1
theorem ap.there {w:World} {g n:Nat} {L:Nat→Int} (h:ap w g n L):w.there g 0 n:=fun j hj=>by
 rw [Nat.zero_add,(h j hj).1];exact ⟨rfl,(h j hj).2⟩
theorem ap.fresh (w:World) (cs:Array Value) (t:TypeId) {n:Nat} {L:Nat→Int} (h:∀ j,j<n→cs[j]? = some (.int .i64 (L j))):ap (w.alloc (.cells cs t)) w.heap.size n L:=fun j hj=>by
 refine ⟨?_,by simp⟩;have:=h j hj;simp [this]
theorem ap.box (w:World) (n:Nat) (L:Nat→Int) (t:TypeId):ap (w.alloc (.cells (af n L).toArray t)) w.heap.size n L:=ap.fresh w _ t (fun j hj=>by rw [List.getElem?_toArray];exact oK n L j hj)
theorem ap.stored {w:World} {g n:Nat} {M L:Nat→Int} (h:ap w g n M):ap (w.setCells g 0 (af n L)) g n L:=fun j hj=>by
 have hr:=World.rangeAt_setCells_same w g 0 (af n L) (by rw [bl];exact h.there);refine ⟨?_,(World.frozen?_setCells g (af n L) 0 w _).trans (h j hj).2⟩;have:=hr j _ (oK n L j hj)
 rwa [Nat.zero_add] at this
theorem ap.farCells {w:World} {g n:Nat} {L:Nat→Int} (h:ap w g n L) {k:Nat} (hk:g≠k) (o:Nat) (vs:List Value):ap (w.setCells k o vs) g n L:=fun j hj=>by
 have hb:(w.setCells k o vs).heap[g]? = w.heap[g]?:=aF k vs o w g hk;exact ⟨(World.cell?_of_block (w:=w) hb).trans (h j hj).1,(World.frozen?_of_block (w:=w) hb).trans (h j hj).2⟩
def cr (L:Nat→Int):Nat→Int
 | 0=>0
 | i+1=>(L i+cr L i) / 65536
def Dw (L:Nat→Int) (k:Nat):Nat→Int:=fun j=>if j<k then (L j+cr L j)%65536 else if j=k then L j+cr L j else L j
def aq (L:Nat→Int):Nat→Int:=fun j=>if j=0 then L 0%65536+38*cr L 16 else (L j+cr L j)%65536
def aQ (L:Nat→Int):Nat→Int
 | 0=>0
 | n+1=>aQ L n+L n*65536 ^ n
theorem fQ {L M:Nat→Int}:∀ n,(∀ j,j<n→L j=M j)→aQ L n=aQ M n
 | 0,_=>rfl
 | n+1,h=>by rw [aQ,aQ,fQ n (fun j hj=>h j (by omega)),h n (by omega)]
theorem mK (L:Nat→Int):∀ n,aQ (fun j=>(L j+cr L j)%65536) n+cr L n*65536 ^ n=aQ L n
 | 0=>by simp [aQ,cr]
 | n+1=>by
  have h:=mK L n;rw [aQ,aQ,cr,←h];have e:L n+cr L n=65536*((L n+cr L n) / 65536)+(L n+cr L n)%65536:=(Int.mul_ediv_add_emod _ _).symm;have e2:(L n+cr L n)*65536 ^ n=(65536*((L n+cr L n) / 65536)+(L n+cr L n)%65536)*65536 ^ n:=congrArg (· * 65536 ^ n) e;rw [Int.add_mul,Int.add_mul] at e2
  have e3:65536*((L n+cr L n) / 65536)*65536 ^ n=(L n+cr L n) / 65536*65536 ^ (n+1):=by
   rw [Int.pow_succ,Int.mul_comm 65536,Int.mul_assoc,Int.mul_comm 65536 (65536 ^ n)]
  omega
theorem bI (L:Nat→Int):aQ (aq L) 16=aQ L 16 - cr L 16*2*(pF:Int):=by
 have h:=mK L 16
 have h1:∀ n,aQ (aq L) (n+1)=aQ (fun j=>(L j+cr L j)%65536) (n+1)+38*cr L 16:=by
  intro n
  induction n with
  | zero =>
   simp only [aQ,aq,if_true,cr];simp
  | succ n ih =>
   rw [aQ,ih]
   conv=>rhs;rw [aQ]
   simp only [aq,Nat.add_eq_zero_iff,Nat.one_ne_zero,and_false,if_false];omega
 have h2:aQ (aq L) 16=aQ (fun j=>(L j+cr L j)%65536) 16+38*cr L 16:=h1 15
 have e:(65536:Int) ^ 16=2*(pF:Int)+38:=by decide
 have e2:cr L 16*(65536:Int) ^ 16=cr L 16*2*(pF:Int)+38*cr L 16:=by rw [e,Int.mul_add,Int.mul_assoc,Int.mul_comm (cr L 16) 38]
 rw [h2,←h,e2];generalize cr L 16*2*(pF:Int)=Y;omega
theorem Fq (L:Nat→Int) (M:Int) (hM:2≤M) (h:∀ j,j<16→-M≤L j∧L j≤M):∀ i,i≤16→-M≤cr L i∧cr L i≤M
 | 0,_=>by simp [cr];omega
 | i+1,hi=>by
  have h1:=Fq L M hM h i (by omega);have h2:=h i (by omega);rw [cr];omega
theorem Bx (L:Nat→Int) (M:Int) (hM:2≤M) (h:∀ j,j<16→-M≤L j∧L j≤M) (i:Nat) (hi:i≤16):-(M / 32768) - 1≤cr L i∧cr L i≤M / 32768+1:=by
 cases i with
 | zero=>simp [cr];omega
 | succ i =>
  have h1:=Fq L M hM h i (by omega);have h2:=h i (by omega);rw [cr];omega
structure tI (R:Int) (L:Nat→Int):Prop where
 low:-R≤L 0∧L 0≤R
 dig:∀ j,0<j→j<16→0≤L j∧L j≤65535
theorem tI.all {R:Int} {L:Nat→Int} (h:tI R L) (hR:65535≤R):∀ j,j<16→-R≤L j∧L j≤R:=fun j hj=>by
 by_cases e:j=0
 · rw [e];exact h.low
 · have:=h.dig j (by omega) hj;omega
theorem eL (L:Nat→Int) (M:Int) (hM:2≤M) (h:∀ j,j<16→-M≤L j∧L j≤M):tI (65535+38*(M / 32768+1)) (aq L):=by
 have h1:=Bx L M hM h 16 (Nat.le_refl _);refine ⟨?_,fun j h0 hj => ?_⟩
 · unfold aq;rw [if_pos rfl];omega
 · unfold aq;rw [if_neg (by omega)];omega
theorem BF (L:Nat→Int) (h:tI 9007199254740992 L):∀ i,4≤i→i≤16→-1≤cr L i∧cr L i≤1:=by
 have c1:-137438953472≤cr L 1∧cr L 1≤137438953472:=by
  have:=h.low;show _≤(L 0+0) / 65536∧(L 0+0) / 65536≤_;omega
 have c2:-2097152≤cr L 2∧cr L 2≤2097153:=by
  have:=h.dig 1 (by decide) (by decide);show _≤(L 1+cr L 1) / 65536∧(L 1+cr L 1) / 65536≤_;omega
 have c3:-33≤cr L 3∧cr L 3≤33:=by
  have:=h.dig 2 (by decide) (by decide);show _≤(L 2+cr L 2) / 65536∧(L 2+cr L 2) / 65536≤_;omega
 intro i h4 hi
 induction i with
 | zero=>omega
 | succ i ih =>
  have hd:=h.dig i (by omega) (by omega);rw [cr]
  by_cases e:i=3
  · subst e;omega
  · have:=ih (by omega) (by omega);omega
theorem fM (L:Nat→Int) (h:tI 9007199254740992 L):tI 65573 (aq L)∧-38≤aq L 0:=by
 have h1:=BF L h 16 (by decide) (Nat.le_refl _);refine ⟨⟨?_,fun j h0 hj => ?_⟩,?_⟩
 · unfold aq;rw [if_pos rfl];omega
 · unfold aq;rw [if_neg (by omega)];omega
 · unfold aq;rw [if_pos rfl];omega
def AV (L:Nat→Int):Prop:=∀ j,j<16→0≤L j∧L j≤65535
theorem lL (L:Nat→Int) (h:tI 65573 L) (h0:-38≤L 0):AV (aq L):=by
 have key:∀ i,1≤i→i≤16→(cr L i=0∨cr L i=cr L 1):=by
  intro i h1 hi;have c1:cr L 1=(L 0+0) / 65536:=rfl;have hl:=h.low
  induction i with
  | zero=>omega
  | succ i ih =>
   by_cases e:i=0
   · subst e;exact .inr rfl
   · have hd:=h.dig i (by omega) (by omega)
     rw [cr]
     rcases ih (by omega) (by omega) with e2 | e2 <;> rw [e2] <;> omega
 intro j hj
 by_cases e:j=0
 · subst e
   unfold aq;rw [if_pos rfl];have c1:cr L 1=(L 0+0) / 65536:=rfl;have hl:=h.low
   rcases key 16 (by decide) (Nat.le_refl _) with e2 | e2 <;> rw [e2] <;> omega
 · unfold aq;rw [if_neg e];omega
end Go.Proofs.YtibdhadbflfdpaaGreatDoor
