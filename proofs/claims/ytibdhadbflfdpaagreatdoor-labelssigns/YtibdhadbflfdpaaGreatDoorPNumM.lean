/- What the proof stands on: PNum, Prime, PrimeUse, PtA, RootMath. -/
import Derived.Test.YtibdhadbflfdpaaGreatDoorD1RBM
import Derived.Test.YtibdhadbflfdpaaGreatDoorL5AM
import Derived.Test.YtibdhadbflfdpaaGreatDoorRefOneM
import Derived.Test.YtibdhadbflfdpaaGreatDoorWordsM
import Derived.Laws.StructEq
namespace Go.Proofs.YtibdhadbflfdpaaGreatDoor
open Nat renaming mod_lt → JZ
open Go.RowKit
theorem gj (w:World):RW (w.alloc (.cells #[.int .u64 0,.int .u64 0,.int .u64 0,.int .u64 0] 75)) w.heap.size 0 (c4 0):=by
 rw [sf];exact RW.fresh w _ _
theorem bD {o:Oper} {a:Act} {cur V:World} {K:Act→World→Prop} {Q:Exit→Act→World→Prop} (x y:Operand) (ho:o.op = .store 75 x y) (g m n:Nat) (hx:a.eval x = .pointer (some ⟨g,0,none⟩)) (hy:a.eval y=ag n) (r:RW cur g 0 (c4 m)) (S:Below V.heap.size V cur) (G:V.heap.size≤g)
 (h:∀ W1,RW W1 g 0 (c4 n)→Below V.heap.size V W1→(∀ b p cs,b≠g→RW cur b p cs→RW W1 b p cs)→K (a.put o.dst undef) W1):o.wp Tryz.prog a cur K Q :=
 wp_store_mid 75 x y ho g 0 (c4 n).toArray hx hy r.there aE (fS n) (h _ (r.stored (c4 n) rfl) (ac G _ _ _ S) (fun _ _ _ hne hr=>hr.far g 0 (c4 n) (.inl hne)))
section
variable {md:Region.Mode} {ops:Array Oper} {Q:Exit→Act→World→Prop} {fuel:Nat} {listed:Array Bool} {a:Act} {w V:World}
theorem bT {i:Nat} {rs:List Nat} (oi:Oper) (hS:Below V.heap.size V w) (h:∀ w1 g,V.heap.size≤g→w.heap.size≤g→Below w.heap.size w w1→RW w1 g 0 (c4 0)→Below V.heap.size V w1→wpAnyH Tryz.prog md ops Q (fun u=>Below V.heap.size V u) fuel (listed.setIfInBounds i true) (a.put oi.dst (pA g 0)) w1) (hs:AllReadyH Tryz.prog md ops Q (fun u=>Below V.heap.size V u) fuel listed a w rs)
 (hrun:(execOp a.eval oi).run Tryz.prog w = .ok (.value (pA w.heap.size 0)) (w.alloc (.cells #[.int .u64 0,.int .u64 0,.int .u64 0,.int .u64 0] 75)):=by kernel_rfl) (hi:ops[i]? = some oi:=by rfl) (hw:Region.wanted oi (yielded ops a.tmps)=true:=by rfl):AllReadyH Tryz.prog md ops Q (fun u=>Below V.heap.size V u) fuel listed a w (i :: rs) :=
 have hb:Below w.heap.size w (w.alloc (.cells #[.int .u64 0,.int .u64 0,.int .u64 0,.int .u64 0] 75)):=bR.alloc (Nat.le_refl _) _
 GM oi ⟨aa hS hb,h _ _ hS.size (Nat.le_refl _) hb (gj w) (aa hS hb)⟩ hs hrun hi hw
theorem DJ {i:Nat} {rs:List Nat} (oi:Oper) (x y:Nat) {g m:Nat} (n:Nat) (r:RW w g 0 (c4 m)) (hS:Below V.heap.size V w) (G:V.heap.size≤g) (h:∀ w1,RW w1 g 0 (c4 n)→Below V.heap.size V w1→(∀ b p cs,b≠g→RW w b p cs→RW w1 b p cs)→wpAnyH Tryz.prog md ops Q (fun u=>Below V.heap.size V u) fuel (listed.setIfInBounds i true) (a.put oi.dst undef) w1) (hs:AllReadyH Tryz.prog md ops Q (fun u=>Below V.heap.size V u) fuel listed a w rs)
 (ho:oi.op = .store 75 (.tmp x) (.tmp y):=by rfl) (hx:a.eval (.tmp x) = .pointer (some ⟨g,0,none⟩):=by rfl) (hy:a.eval (.tmp y)=ag n:=by rfl) (hi:ops[i]? = some oi:=by rfl) (hw:Region.wanted oi (yielded ops a.tmps)=true:=by rfl):AllReadyH Tryz.prog md ops Q (fun u=>Below V.heap.size V u) fuel listed a w (i :: rs):=by
 refine AllReadyH.cons hi (fun K hK => ?_) hs;rw [if_pos hw];exact bD _ _ ho g m n hx hy r hS G (fun w1 r1 hS1 far=>hK.out _ _ hS1 (fun _=>h w1 r1 hS1 far))
theorem iu {o:Oper} {g off n:Nat} (h:RW V g off (c4 n)) (k:Nat) (hw:Region.wanted o (yielded ops a.tmps)=true:=by rfl) (ho:o.op = .load 75 (.tmp k):=by rfl) (hx:a.eval (.tmp k) = .pointer (some ⟨g,off,none⟩):=by rfl):YieldsIf Tryz.prog ops (fun w'=>Below V.heap.size V w') o (ag n) a :=
 d9 h 75 k Tryz.underlying75 aE rfl hw ho hx
end
theorem jh (w:World) (n:Nat):(w.alloc (.cells #[.int .u64 0,.int .u64 0,.int .u64 0,.int .u64 0] 75)).there w.heap.size 0 (c4 n).toArray.size:=(gj w).there
theorem cN (n:Nat):(Tryz.prog.info? 75).map (·.size)=some (c4 n).toArray.size:=aE
theorem Cn {a b:Nat} (ha:a<pF) (hb:b<pF) (h0:lw a 0=lw b 0) (h1:lw a 1=lw b 1) (h2:lw a 2=lw b 2) (h3:lw a 3=lw b 3):a=b:=by
 unfold lw at *;unfold pF at *;simp only [Nat.pow_zero,Nat.div_one,Nat.pow_one] at *;omega
theorem pu {P:Program} (w:World) (e:Nat) (k:IntKind) (he:P.underlying e=some (.int k)):(isAgg e).run P w = .ok false w:=by
 simp [isAgg,run_underlying he]
theorem xV {P:Program} (w:World) (d t e:Nat) (k:IntKind) (ht:P.underlying t=some (.array 4 e)) (he:P.underlying e=some (.int k)) (hs:(sizeOf e).run P w = .ok 1 w) (a0 a1 a2 a3 b0 b1 b2 b3:Int) :
 (Op.equalIn (d+2) t (.agg #[.int k a0,.int k a1,.int k a2,.int k a3]) (.agg #[.int k b0,.int k b1,.int k b2,.int k b3])).run P w = .ok (a0 == b0 && a1 == b1 && a2 == b2 && a3 == b3) w:=by
 rw [Op.equalIn];simp only [Sem.run_bind,run_underlying ht,Result.andThen_ok,hs]
 have hp:∀ (xs:Array Value) (i:Nat) (v:Value),xs[i]? = some v→(part e xs i).run P w = .ok v w:=fun xs i v h=>by
  simp [part,pu w e k he,h]
 simp only [Std.Legacy.Range.forIn_eq_forIn_range',Std.Legacy.Range.size];simp [List.range',hp,run_equalIn_int w d e k k _ _ he]
 cases h0:(a0 == b0) <;> cases h1:(a1 == b1) <;> cases h2:(a2 == b2) <;> cases h3:(a3 == b3) <;> simp_all
theorem lz (w:World) (x0 x1 x2 x3:Value):(part 73 #[x0,x1,x2,x3] 0).run Tryz.prog w = .ok (.agg #[x0,x1,x2,x3]) w:=by kernel_rfl
theorem Hw (w:World) {a b:Nat} (ha:a<pF) (hb:b<pF):(Op.equalIn 10000 75 (ag a) (ag b)).run Tryz.prog w = .ok (decide (a=b)) w:=by
 unfold ag;rw [show (10000:Nat)=9999+1 from rfl,run_equalIn_agg w 9999 75 _ _ (by kernel_rfl) (by kernel_rfl)];simp only [Program.fieldsOf,Tryz.underlying75,Op.eqFields];rw [if_pos (by decide)];simp only [Sem.run_bind];rw [lz];simp only [Result.andThen_ok];rw [lz];simp only [Result.andThen_ok];rw [show (9999:Nat)=9997+2 from rfl,xV w 9997 73 71 .u64 (by kernel_rfl) (by kernel_rfl) (by kernel_rfl)];simp only [Result.andThen_ok]
 by_cases h:a=b
 · subst h
   simp
 · have hn:((lw a 0:Int) == (lw b 0:Int) && (lw a 1:Int) == (lw b 1:Int) && (lw a 2:Int) == (lw b 2:Int) && (lw a 3:Int) == (lw b 3:Int))=false:=by
    rcases Bool.eq_false_or_eq_true ((lw a 0:Int) == (lw b 0:Int) && (lw a 1:Int) == (lw b 1:Int) && (lw a 2:Int) == (lw b 2:Int) && (lw a 3:Int) == (lw b 3:Int)) with e | e
    · exfalso
      simp only [Bool.and_eq_true,beq_iff_eq] at e;exact h (Cn ha hb (by omega) (by omega) (by omega) (by omega))
    · exact e
   rw [hn,decide_eq_false h];simp
theorem uO (w:World) {a b:Nat} (ha:a<pF) (hb:b<pF) (x y:Operand):(do eqGuard .neq 75 x y (ag a) (ag b);binOp .neq 75 (ag a) (ag b):Sem Value).run Tryz.prog w = .ok (.bool (!decide (a=b))) w:=by
 rw [Sem.run_bind,show (eqGuard .neq 75 x y (ag a) (ag b)).run Tryz.prog w = .ok () w from run_eqGuard_agg w .neq 75 x y _ _ (by kernel_rfl)];simp only [Result.andThen_ok];rw [show (binOp .neq 75 (ag a) (ag b)).run Tryz.prog w=((Op.equalIn 10000 75 (ag a) (ag b)).run Tryz.prog w).andThen fun b w' => .ok (.bool (!b)) w' from run_neq_struct w 75 _ _,Hw w ha hb];rfl
theorem pj {ops:Array Oper} {rest:List Oper} {op:Oper} {a:Act} {w:World} {Q:Exit→Act→World→Prop} (hgd:op.guard=none) (x y:Operand) (t2:TypeId) (ho:op.op = .binOp .neq 75 x y t2) (m n:Nat) (hm:m<pF) (hn:n<pF)
 (hx:a.eval x=ag m) (hy:a.eval y=ag n) (z:Bool) (hz:decide (m=n)=z) (h:wpList Tryz.prog ops Q rest (a.put op.dst (.bool (!z))) w):wpList Tryz.prog ops Q (op :: rest) a w :=
 wpList_plain hgd fun K hK=>by
  unfold Oper.wp execOp;simp only [ho,hx,hy];rw [Sem.run_bind,uO w hm hn,hz];exact hK _ _ h
theorem vV {ops:Array Oper} {S:World→Prop} {o:Oper} {a:Act} (hw:Region.wanted o (yielded ops a.tmps)=true) (x y:Operand) (t2:TypeId) (ho:o.op = .binOp .neq 75 x y t2) (m n:Nat) (hm:m<pF) (hn:n<pF)
 (hx:a.eval x=ag m) (hy:a.eval y=ag n) (z:Bool) (hz:decide (m=n)=z):YieldsIf Tryz.prog ops S o (.bool (!z)) a:=by
 refine .inl ⟨hw,fun w _ => ?_⟩;unfold execOp;simp only [ho,hx,hy];rw [Sem.run_bind,uO w hm hn,hz];rfl
def nW (n:Nat):Prop:=2≤n∧∀ d,d ∣ n→d=1∨d=n
theorem nW.pos {n:Nat} (h:nW n):0<n:=Nat.lt_of_lt_of_le (by decide) h.1
theorem lD:∀ n,2≤n→∃ q,nW q∧q ∣ n:=by
 intro n
 induction n using Nat.strongRecOn with
 | _ n ih =>
  intro hn
  by_cases h:nW n
  · exact ⟨n,h,Nat.dvd_refl n⟩
  · have:∃ d,d ∣ n∧d≠1∧d≠n:=by
     apply Classical.byContradiction;intro hc;refine h ⟨hn,fun d hd => ?_⟩
     by_cases e1:d=1
     · exact .inl e1
     · by_cases e2:d=n
       · exact .inr e2
       · exact absurd ⟨d,hd,e1,e2⟩ hc
    obtain ⟨d,hd,h1,h2⟩:=this;have hle:=Nat.le_of_dvd (by omega) hd
    have h0:d≠0:=fun e=>by rw [e] at hd;have:=Nat.eq_zero_of_zero_dvd hd;omega
    obtain ⟨q,hq,hqd⟩:=ih d (by omega) (by omega);exact ⟨q,hq,Nat.dvd_trans hqd hd⟩
theorem nW.gcd {p:Nat} (h:nW p) {a:Nat} (ha:¬p ∣ a):Nat.gcd p a=1:=by
 rcases h.2 _ (Nat.gcd_dvd_left p a) with e | e
 · exact e
 · exact absurd (e ▸ Nat.gcd_dvd_right p a) ha
theorem nW.euclid {p:Nat} (h:nW p) {a b:Nat} (hab:p ∣ a*b):p ∣ a∨p ∣ b:=by
 by_cases ha:p ∣ a
 · exact .inl ha
 · exact .inr (Nat.Coprime.dvd_of_dvd_mul_left (h.gcd ha) hab)
def gR:Nat→Nat→Nat
 | _,0=>1
 | 0,_+1=>0
 | n+1,k+1=>gR n k+gR n (k+1)
theorem iZ (n:Nat):gR n 0=1:=by cases n <;> rfl
theorem nk:∀ n k,n<k→gR n k=0
 | 0,k+1,_=>rfl
 | n+1,k+1,h=>by rw [gR,nk n k (by omega),nk n (k+1) (by omega)]
theorem uA:∀ n,gR n n=1
 | 0=>rfl
 | n+1=>by rw [gR,uA n,nk n (n+1) (by omega)]
theorem nC:∀ n k,(k+1)*gR (n+1) (k+1)=(n+1)*gR n k
 | 0,0=>rfl
 | 0,k+1=>by rw [gR,gR,gR];rfl
 | n+1,0=>by
  have h:=nC n 0;rw [iZ] at h ⊢;rw [gR,iZ];omega
 | n+1,k+1=>by
  have h1:=nC n k;have h2:=nC n (k+1);have e1:gR (n+2) (k+2)=gR (n+1) (k+1)+gR (n+1) (k+2):=rfl;have e2:gR (n+1) (k+1)=gR n k+gR n (k+1):=rfl;rw [show n+1+1=n+2 from rfl,show k+1+1=k+2 from rfl] at *
  have e3:(k+2)*gR (n+1) (k+1)=(n+1)*gR n k+gR (n+1) (k+1):=by
   rw [show k+2=(k+1)+1 from rfl,Nat.succ_mul,h1]
  have e4:(n+1)*gR (n+1) (k+1)=(n+1)*gR n k+(n+1)*gR n (k+1):=by rw [e2,Nat.mul_add]
  have e5:(n+2)*gR (n+1) (k+1)=(n+1)*gR (n+1) (k+1)+gR (n+1) (k+1):=Nat.succ_mul _ _;rw [e1,Nat.mul_add,h2,e3,e5,e4];omega
def qp (a n:Nat):Nat→Nat
 | 0=>0
 | m+1=>qp a n m+gR n m*a ^ m
theorem tQ (a n:Nat):∀ m,qp a (n+1) (m+1)=qp a n (m+1)+a*qp a n m
 | 0=>by simp [qp,iZ]
 | m+1=>by
  rw [qp,tQ a n m];have e:gR (n+1) (m+1)=gR n m+gR n (m+1):=rfl;rw [e,Nat.add_mul];have h1:qp a n (m+1+1)=qp a n (m+1)+gR n (m+1)*a ^ (m+1):=rfl;have h2:qp a n (m+1)=qp a n m+gR n m*a ^ m:=rfl;rw [h1,h2,Nat.mul_add,Nat.pow_succ]
  have e2:a*(gR n m*a ^ m)=gR n m*(a ^ m*a):=by rw [Nat.mul_comm a,Nat.mul_assoc]
  rw [e2];omega
theorem yw (a:Nat):∀ n,qp a n (n+1)=(a+1) ^ n
 | 0=>by simp [qp,iZ]
 | n+1=>by
  rw [tQ];have h1:qp a n (n+1+1)=qp a n (n+1)+gR n (n+1)*a ^ (n+1):=rfl;rw [h1,nk n (n+1) (by omega),Nat.zero_mul,Nat.add_zero,yw a n,Nat.pow_succ,Nat.mul_comm _ (a+1),Nat.succ_mul,Nat.add_comm]
theorem yz {p:Nat} (h:nW p) (a:Nat):∀ m,m+1≤p→qp a p (m+1)%p=1%p
 | 0,_=>by simp [qp,iZ]
 | m+1,hm=>by
  have ih:=yz h a m (by omega)
  have hd:p ∣ gR p (m+1):=by
   obtain ⟨n,rfl⟩:∃ n,p=n+1:=⟨p - 1,by have:=h.pos;omega⟩
   have e:=nC n m
   have:n+1 ∣ (m+1)*gR (n+1) (m+1):=⟨_,e⟩
   rcases h.euclid this with h1 | h1
   · have:=Nat.le_of_dvd (by omega) h1;omega
   · exact h1
  have e:qp a p (m+1+1)=qp a p (m+1)+gR p (m+1)*a ^ (m+1):=rfl;obtain ⟨c,hc⟩:=hd;rw [e,hc,Nat.mul_assoc,Nat.add_mul_mod_self_left,ih]
theorem nW.fermat {p:Nat} (h:nW p):∀ a,a ^ p%p=a%p
 | 0=>by rw [Nat.zero_pow h.pos]
 | a+1=>by
  have e1:=yw a p;have e2:qp a p (p+1)=qp a p p+gR p p*a ^ p:=rfl
  obtain ⟨n,hn⟩:∃ n,p=n+1:=⟨p - 1,by have:=h.pos;omega⟩
  have e3:=yz h a n (by omega);rw [←hn] at e3;rw [←e1,e2,uA,Nat.one_mul,Nat.add_mod,e3,h.fermat a,←Nat.add_mod,Nat.add_comm]
theorem nW.fermat1 {p:Nat} (h:nW p) {a:Nat} (ha:¬p ∣ a):a ^ (p - 1)%p=1%p:=by
 have h1:=h.fermat a;have hp:=h.pos
 obtain ⟨n,rfl⟩:∃ n,p=n+1:=⟨p - 1,by omega⟩
 rw [Nat.pow_succ] at h1;rw [Nat.add_sub_cancel]
 have key:∀ x,(x*a)%(n+1)=a%(n+1)→x%(n+1)=1%(n+1):=by
  intro x hx
  have hd:n+1 ∣ ((x:Int)*a - a).natAbs:=by
   have:((n+1:Nat):Int) ∣ (x:Int)*a - a:=by
    apply Int.dvd_of_emod_eq_zero;rw [Int.sub_emod,←Int.natCast_mul,←Int.natCast_emod,←Int.natCast_emod,hx,Int.sub_self,Int.zero_emod]
   exact Int.ofNat_dvd_left.1 this
  have e:((x:Int)*a - a)=((x:Int) - 1)*a:=by rw [Int.sub_mul,Int.one_mul]
  rw [e,Int.natAbs_mul,Int.natAbs_natCast] at hd
  rcases h.euclid hd with h2 | h2
  · have h3:((n+1:Nat):Int) ∣ (x:Int) - 1:=Int.ofNat_dvd_left.2 h2
    have h4:=Int.emod_eq_zero_of_dvd h3;have h5:=(Int.emod_eq_emod_iff_emod_sub_eq_zero (m:=(x:Int)) (n:=((n+1:Nat):Int)) (k:=1)).2 h4
    have h6:(((x%(n+1):Nat):Int))=((1%(n+1):Nat):Int):=by
     rw [Int.natCast_emod,Int.natCast_emod];exact h5
    exact Int.ofNat_inj.1 h6
  · exact absurd h2 ha
 exact key _ h1
def pm (N a:Nat):Nat→Nat→Nat
 | 0,_=>1%N
 | k+1,e=>pm N a k (e / 2) ^ 2%N*a ^ (e%2)%N
theorem ir (N a:Nat):∀ k e,e<2 ^ k→pm N a k e=a ^ e%N
 | 0,e,h=>by
  have:e=0:=by simpa using h
  rw [this,pm,Nat.pow_zero]
 | k+1,e,h=>by
  rw [pm,ir N a k (e / 2) (by rw [Nat.pow_succ] at h;omega),←Nat.pow_mod,←Nat.pow_mul,Nat.mul_mod,Nat.mod_mod,←Nat.mul_mod,←Nat.pow_add];congr 2;omega
theorem DN (a s:Nat) (m n:Nat):a ^ m%s=1%s→a ^ n%s=1%s→a ^ (Nat.gcd m n)%s=1%s:=by
 induction m,n using Nat.gcd.induction with
 | H0 n=>intro _ h;rw [Nat.gcd_zero_left];exact h
 | H1 m n hm ih =>
  intro h1 h2;rw [Nat.gcd_rec];refine ih ?_ h1
  have e:a ^ n=(a ^ m) ^ (n / m)*a ^ (n%m):=by rw [←Nat.pow_mul,←Nat.pow_add,Nat.div_add_mod]
  rw [e,Nat.mul_mod,Nat.pow_mod,h1,←Nat.pow_mod,Nat.one_pow,←Nat.mul_mod,Nat.one_mul] at h2;exact h2
theorem DY {N f Q a:Nat} (hf:nW f) (hN:N=f*Q+1) (hQ:0<Q) (h1:a ^ (N - 1)%N=1) (h2:Nat.gcd (a ^ Q%N+N - 1) N=1) (hs:Q / f+1<Q%f):nW N:=by
 have hfp:=hf.pos;have hf2:=hf.1
 have hNp:2≤N:=by
  have:1≤f*Q:=Nat.mul_pos hfp hQ;omega
 have hN1:N - 1=f*Q:=by omega
 have step:∀ q,nW q→q ∣ N→f ∣ q - 1:=fun q hq hqN=>by
  apply Classical.byContradiction;intro hnd;have hq1:1%q=1:=Nat.mod_eq_of_lt hq.1
  have e1:a ^ (N - 1)%q=1%q:=by rw [←Nat.mod_mod_of_dvd (a ^ (N - 1)) hqN,h1]
  have hqa:¬q ∣ a:=fun hd=>by
   have hd2:q ∣ a ^ (N - 1):=Nat.dvd_trans hd (by
    obtain ⟨k,hk⟩:∃ k,N - 1=k+1:=⟨N - 2,by omega⟩
    rw [hk,Nat.pow_succ];exact Nat.dvd_mul_left _ _)
   rw [Nat.mod_eq_zero_of_dvd hd2,hq1] at e1;omega
  have e2:=hq.fermat1 hqa;have e3:=DN a q _ _ e1 e2;have hg1:=Nat.gcd_dvd_left (N - 1) (q - 1);have hg2:=Nat.gcd_dvd_right (N - 1) (q - 1);generalize Nat.gcd (N - 1) (q - 1)=g at *
  have hfg:¬f ∣ g:=fun h=>hnd (Nat.dvd_trans h hg2)
  rw [hN1] at hg1;have hgQ:g ∣ Q:=Nat.Coprime.dvd_of_dvd_mul_left (Nat.Coprime.symm (hf.gcd hfg)) hg1;obtain ⟨c,hc⟩:=hgQ
  have e4:a ^ Q%q=1:=by rw [hc,Nat.pow_mul,Nat.pow_mod,e3,←Nat.pow_mod,Nat.one_pow,hq1]
  have e5:a ^ Q%N%q=1:=by rw [Nat.mod_mod_of_dvd _ hqN,e4]
  have hd:q ∣ a ^ Q%N+N - 1:=by
   generalize a ^ Q%N=y at e5;obtain ⟨n,hn⟩:=hqN
   have hy:y=q*(y / q)+1:=by have:=Nat.div_add_mod y q;omega
   refine ⟨y / q+n,?_⟩;rw [Nat.mul_add,←hn];omega
  have:=Nat.dvd_gcd hd hqN;rw [h2] at this;have:=Nat.le_of_dvd (by decide) this;have:=hq.1;omega
 obtain ⟨q,hq,hqN⟩:=lD N hNp
 by_cases e:q=N
 · rw [←e];exact hq
 · exfalso
   obtain ⟨t,ht⟩:=hqN;obtain ⟨x,hx⟩:=step q hq ⟨t,ht⟩;have hq2:=hq.1
   have hqe:q=f*x+1:=by omega
   have hx0:0<x:=by
    apply Nat.pos_of_ne_zero;intro h0;rw [h0,Nat.mul_zero] at hqe;omega
   have e1:f*Q+1=(f*x+1)*t:=by rw [←hqe,←ht,hN]
   have e2:f*Q+1=f*(x*t)+t:=by rw [e1,Nat.add_mul,Nat.one_mul,Nat.mul_assoc]
   have ht0:0<t:=by
    apply Nat.pos_of_ne_zero;intro h0;rw [h0,Nat.mul_zero] at ht;omega
   have hft:f ∣ t - 1:=by
    have h3:f*Q=f*(x*t)+(t - 1):=by omega
    have:f ∣ f*(x*t)+(t - 1):=⟨Q,h3.symm⟩
    exact (Nat.dvd_add_right (Nat.dvd_mul_right f _)).1 this
   obtain ⟨y,hy⟩:=hft
   have hte:t=f*y+1:=by omega
   have hy0:0<y:=by
    apply Nat.pos_of_ne_zero;intro h0;rw [h0,Nat.mul_zero] at hte;rw [hte,Nat.mul_one] at ht;exact e ht.symm
   have h3:f*Q=f*(x*t)+f*y:=by omega
   have h4:Q=x*t+y:=Nat.eq_of_mul_eq_mul_left hfp (by rw [h3,Nat.mul_add])
   have h5:Q=f*(x*y)+(x+y):=by
    rw [h4,hte,Nat.mul_add,Nat.mul_one,Nat.mul_left_comm,Nat.add_assoc]
   have h6:x+y≤x*y+1:=by
    obtain ⟨u,rfl⟩:∃ u,x=u+1:=⟨x - 1,by omega⟩
    obtain ⟨v,rfl⟩:∃ v,y=v+1:=⟨y - 1,by omega⟩
    rw [Nat.add_mul,Nat.mul_add];omega
   have h7:x*y≤Q / f:=by
    rw [Nat.le_div_iff_mul_le hfp,Nat.mul_comm,h5];exact Nat.le_add_right _ _
   have h8:Q%f<f:=JZ _ hfp
   have h9:Q%f=x+y:=by
    rw [h5,Nat.mul_add_mod,Nat.mod_eq_of_lt (by omega)]
   omega
theorem u4 (n k:Nat) (hn:2≤n) (hk:n<k*k) (h:(List.range k).all (fun d=>decide (d<2) || decide (n%d≠0))=true):nW n:=by
 obtain ⟨q,hq,hqn⟩:=lD n hn
 have hno:∀ d,2≤d→d<k→¬d ∣ n:=fun d h2 hdk hd=>by
  have:=List.all_eq_true.1 h d (List.mem_range.2 hdk);rw [Bool.or_eq_true,decide_eq_true_eq,decide_eq_true_eq] at this
  rcases this with h3 | h3
  · omega
  · exact h3 (Nat.mod_eq_zero_of_dvd hd)
 by_cases e:q=n
 · rw [←e];exact hq
 · exfalso
   obtain ⟨t,ht⟩:=hqn;have hq2:=hq.1;have hqk:k≤q:=Nat.le_of_not_lt (fun hlt=>hno q hq2 hlt ⟨t,ht⟩)
   have ht0:t≠0:=fun h0=>by rw [h0,Nat.mul_zero] at ht;omega
   have ht1:t≠1:=fun h1=>by rw [h1,Nat.mul_one] at ht;exact e ht.symm
   have htk:k≤t:=Nat.le_of_not_lt (fun hlt=>hno t (by omega) hlt ⟨q,by rw [Nat.mul_comm];exact ht⟩);have:=Nat.mul_le_mul hqk htk;omega
theorem HH:nW 8574133:=u4 8574133 2929 (by decide) (by decide) (by kernel_rfl)
theorem Im:nW 1919519569386763 :=
 DY (f:=8574133) (Q:=223873314) (a:=2) HH (by decide) (by decide)
  (by rw [←ir 1919519569386763 2 256 (1919519569386763 - 1) (by decide)];kernel_rfl)
  (by rw [←ir 1919519569386763 2 256 223873314 (by decide)];kernel_rfl) (by decide)
theorem Gl:nW 75445702479781427272750846543864801 :=
 DY (f:=1919519569386763) (Q:=39304471641247389600) (a:=2) Im (by decide) (by decide)
  (by rw [←ir 75445702479781427272750846543864801 2 256 (75445702479781427272750846543864801 - 1) (by decide)];kernel_rfl)
  (by rw [←ir 75445702479781427272750846543864801 2 256 39304471641247389600 (by decide)];kernel_rfl) (by decide)
theorem Ib:nW 74058212732561358302231226437062788676166966415465897661863160754340907 :=
 DY (f:=75445702479781427272750846543864801) (Q:=981609426360740691344999861639072106) (a:=2) Gl (by decide) (by decide)
  (by rw [←ir 74058212732561358302231226437062788676166966415465897661863160754340907 2 256 (74058212732561358302231226437062788676166966415465897661863160754340907 - 1) (by decide)];kernel_rfl)
  (by rw [←ir 74058212732561358302231226437062788676166966415465897661863160754340907 2 256 981609426360740691344999861639072106 (by decide)];kernel_rfl) (by decide)
theorem GF:nW 57896044618658097711785492504343953926634992332820282019728792003956564819949 :=
 DY (f:=74058212732561358302231226437062788676166966415465897661863160754340907) (Q:=781764) (a:=2) Ib (by decide) (by decide)
  (by rw [←ir 57896044618658097711785492504343953926634992332820282019728792003956564819949 2 256 (57896044618658097711785492504343953926634992332820282019728792003956564819949 - 1) (by decide)];kernel_rfl)
  (by rw [←ir 57896044618658097711785492504343953926634992332820282019728792003956564819949 2 256 781764 (by decide)];kernel_rfl) (by decide)
theorem tz:nW pF:=GF
theorem zj {x:Nat} (h0:x≠0) (hx:x<pF):¬pF ∣ x:=fun h=>by have:=Nat.le_of_dvd (Nat.pos_of_ne_zero h0) h;omega
theorem wl:1%pF=1:=by decide
theorem nj {x:Nat} (h0:x≠0) (hx:x<pF):x*(x ^ (pF - 2)%pF)%pF=1:=by
 have h:=tz.fermat1 (zj h0 hx)
 have e:pF - 1=(pF - 2).succ:=by decide
 rw [Nat.mul_mod,Nat.mod_mod,←Nat.mul_mod,Nat.mul_comm,←Nat.pow_succ,←e,h,wl]
theorem Bm:0 ^ (pF - 2)%pF=0:=by
 have e:0<pF - 2:=by decide
 rw [Nat.zero_pow e,Nat.zero_mod]
section
variable {n:Nat} [NeZero n]
theorem Ah {x1 y1 x2 y2 D i j:Fin n} (h1:x1^2+y1^2=1+D*x1^2*y1^2) (h2:x2^2+y2^2=1+D*x2^2*y2^2) (hi:(1+D*x1*x2*y1*y2)*i=1) (hj:(1-D*x1*x2*y1*y2)*j=1) :
 ((x1*y2+x2*y1)*i)^2+((y1*y2-x1*x2)*j)^2=1+D*((x1*y2+x2*y1)*i)^2*((y1*y2-x1*x2)*j)^2:=by
 have h:(x1*y2+x2*y1)^2*(1-D*x1*x2*y1*y2)^2+(y1*y2-x1*x2)^2*(1+D*x1*x2*y1*y2)^2=(1+D*x1*x2*y1*y2)^2*(1-D*x1*x2*y1*y2)^2+D*(x1*y2+x2*y1)^2*(y1*y2-x1*x2)^2:=by grind
 generalize x1*y2+x2*y1=a at *;generalize y1*y2-x1*x2=b at *;generalize 1+D*x1*x2*y1*y2=p at *;generalize 1-D*x1*x2*y1*y2=m at *
 grind
theorem vh {a b c d e f:Fin n} (h:a*d=c*b) (hb:b*e=1) (hd:d*f=1):a*e=c*f:=by grind
theorem wT {x1 y1 x2 y2 x3 y3 D:Fin n} (h1:x1^2+y1^2=1+D*x1^2*y1^2) (h2:x2^2+y2^2=1+D*x2^2*y2^2) (h3:x3^2+y3^2=1+D*x3^2*y3^2) :
 ((x1*y2+x2*y1)*y3*(1 - D*x1*x2*y1*y2)+x3*(y1*y2-x1*x2)*(1+D*x1*x2*y1*y2))*((1+D*x2*x3*y2*y3)*(1 - D*x2*x3*y2*y3)+D*x1*(x2*y3+x3*y2)*y1*(y2*y3-x2*x3))=(x1*(y2*y3-x2*x3)*(1+D*x2*x3*y2*y3)+(x2*y3+x3*y2)*y1*(1 - D*x2*x3*y2*y3))*((1+D*x1*x2*y1*y2)*(1 - D*x1*x2*y1*y2)+D*(x1*y2+x2*y1)*x3*(y1*y2-x1*x2)*y3):=by
 grind (splits:=0)
theorem xn {x1 y1 x2 y2 x3 y3 D:Fin n} (h1:x1^2+y1^2=1+D*x1^2*y1^2) (h2:x2^2+y2^2=1+D*x2^2*y2^2) (h3:x3^2+y3^2=1+D*x3^2*y3^2) :
 ((y1*y2-x1*x2)*y3*(1+D*x1*x2*y1*y2) - (x1*y2+x2*y1)*x3*(1 - D*x1*x2*y1*y2))*((1+D*x2*x3*y2*y3)*(1 - D*x2*x3*y2*y3) - D*x1*(x2*y3+x3*y2)*y1*(y2*y3-x2*x3))=(y1*(y2*y3-x2*x3)*(1+D*x2*x3*y2*y3) - x1*(x2*y3+x3*y2)*(1 - D*x2*x3*y2*y3))*((1+D*x1*x2*y1*y2)*(1 - D*x1*x2*y1*y2) - D*(x1*y2+x2*y1)*x3*(y1*y2-x1*x2)*y3):=by
 grind (splits:=0)
theorem Ej {a b p m i j c d q k r s x1 y1 x3 y3 D:Fin n} (hi:p*i=1) (hj:m*j=1) (hr:q*r=1) (hs:k*s=1)
 (h:(a*y3*m+x3*b*p)*(q*k+D*x1*c*y1*d)=(x1*d*q+c*y1*k)*(p*m+D*a*x3*b*y3)) :
 ((a*i)*y3+x3*(b*j))*(1+D*x1*(c*r)*y1*(d*s))=(x1*(d*s)+(c*r)*y1)*(1+D*(a*i)*x3*(b*j)*y3):=by
 have e1:(a*i)*y3+x3*(b*j)=(a*y3*m+x3*b*p)*(i*j):=by grind
 have e2:1+D*x1*(c*r)*y1*(d*s)=(q*k+D*x1*c*y1*d)*(r*s):=by grind
 have e3:x1*(d*s)+(c*r)*y1=(x1*d*q+c*y1*k)*(r*s):=by grind
 have e4:1+D*(a*i)*x3*(b*j)*y3=(p*m+D*a*x3*b*y3)*(i*j):=by grind
 rw [e1,e2,e3,e4];generalize a*y3*m+x3*b*p=A at *;generalize q*k+D*x1*c*y1*d=B at *;generalize x1*d*q+c*y1*k=C at *;generalize p*m+D*a*x3*b*y3=E at *;clear e1 e2 e3 e4
 grind
theorem Fa {a b p m i j c d q k r s x1 y1 x3 y3 D:Fin n} (hi:p*i=1) (hj:m*j=1) (hr:q*r=1) (hs:k*s=1)
 (h:(b*y3*p - a*x3*m)*(q*k - D*x1*c*y1*d)=(y1*d*q - x1*c*k)*(p*m - D*a*x3*b*y3)) :
 ((b*j)*y3 - (a*i)*x3)*(1 - D*x1*(c*r)*y1*(d*s))=(y1*(d*s) - x1*(c*r))*(1 - D*(a*i)*x3*(b*j)*y3):=by
 have e1:(b*j)*y3 - (a*i)*x3=(b*y3*p - a*x3*m)*(i*j):=by grind
 have e2:1 - D*x1*(c*r)*y1*(d*s)=(q*k - D*x1*c*y1*d)*(r*s):=by grind
 have e3:y1*(d*s) - x1*(c*r)=(y1*d*q - x1*c*k)*(r*s):=by grind
 have e4:1 - D*(a*i)*x3*(b*j)*y3=(p*m - D*a*x3*b*y3)*(i*j):=by grind
 rw [e1,e2,e3,e4];generalize b*y3*p - a*x3*m=A at *;generalize q*k - D*x1*c*y1*d=B at *;generalize y1*d*q - x1*c*k=C at *;generalize p*m - D*a*x3*b*y3=E at *;clear e1 e2 e3 e4
 grind
theorem II {x1 y1 x2 y2 D t:Fin n} (h1:x1^2+y1^2=1+D*x1^2*y1^2) (h2:x2^2+y2^2=1+D*x2^2*y2^2) (ht:t=D*x1*x2*y1*y2) (h:t*t=1) :
 (x1+t*y1)^2=D*(x1*y1*(x2+y2))^2∧(x1 - t*y1)^2=D*(x1*y1*(x2-y2))^2:=by
 constructor <;> grind
end
section
variable {n:Nat} [NeZero n]
theorem Jh {D:Fin n} (e:1 - D*0*0=0):(1:Fin n)=0:=by grind
theorem JA {D x y:Fin n}:1+D*x*0*y*1=1:=by grind
theorem JB {D x y:Fin n}:1 - D*x*0*y*1=1:=by grind
theorem Jl {x y:Fin n}:(x*1+0*y)*1=x:=by grind
theorem Jx {x y:Fin n}:(y*1 - x*0)*1=y:=by grind
end
abbrev Fp:=Fin pF
instance:NeZero pF:=⟨by decide⟩
def fi (a:Fp):Fp:=⟨de a.val,tw _⟩
theorem cW {a:Fp} (h:a≠0):a*fi a=1:=by
 refine Fin.ext ?_;rw [Fin.val_mul];exact nj (fun e=>h (Fin.ext e)) a.isLt
theorem jn {a b:Fp} (h:a*b=0):a=0∨b=0:=by
 by_cases ha:a=0
 · exact .inl ha
 · right
   have h1:=cW ha;generalize fi a=i at *
   grind
theorem qC {a b:Fp} (ha:a≠0) (hb:b≠0):a*b≠0:=fun h=>(jn h).elim ha hb
theorem yc {a b:Fp} (h:a*b=1):a≠0:=fun e=>by
 rw [e] at h
 have:(0:Fp)=1:=by grind
 exact absurd this (by decide)
def NS (D:Fp):Prop:=∀ z:Fp,z*z≠D
def On (D:Fp) (P:Fp × Fp):Prop:=P.1^2+P.2^2=1+D*P.1^2*P.2^2
def tt (D:Fp) (P Q:Fp × Fp):Fp:=D*P.1*Q.1*P.2*Q.2
theorem GA {D y:Fp} (h:NS D):1 - D*y*y≠0:=fun e=>by
 have hy:y≠0:=fun h0=>by
  rw [h0] at e;exact absurd (Jh e) (by decide)
 have h1:=cW hy;refine h (fi y) ?_;generalize fi y=i at *
 grind
theorem Il:(2:Fp)≠0:=by decide
theorem uf {D:Fp} (hD:NS D) {P Q:Fp × Fp} (hP:On D P) (hQ:On D Q):tt D P Q*tt D P Q≠1:=fun h=>by
 obtain ⟨x1,y1⟩:=P;obtain ⟨x2,y2⟩:=Q;unfold On at hP hQ;unfold tt at h;simp only at hP hQ h
 obtain ⟨t,ht⟩:∃ t,t=D*x1*x2*y1*y2:=⟨_,rfl⟩
 rw [←ht] at h;obtain ⟨s1,s2⟩:=II hP hQ ht h
 have key:∀ a w:Fp,a^2=D*w^2→w=0:=fun a w hw=>Classical.byContradiction fun hne=>by
  have h1:=cW hne;refine hD (a*fi w) ?_;generalize fi w=i at *
  grind
 have k1:=key _ _ s1;have k2:=key _ _ s2;clear s1 s2 key hP hQ;have u1:x1*y1≠0:=yc (b:=D*x2*y2*t) (by rw [ht] at h ⊢;clear k1 k2 ht;grind);have u2:x2*y2≠0:=yc (b:=D*x1*y1*t) (by rw [ht] at h ⊢;clear k1 k2 ht;grind);have a1:=(jn k1).resolve_left u1;have a2:=(jn k2).resolve_left u1
 have b1:2*x2=0:=by clear h ht k1 k2 u1 u2;grind
 have b2:=(jn b1).resolve_left Il;rw [b2] at u2;exact u2 (by grind)
theorem oV {D:Fp} (hD:NS D) {P Q:Fp × Fp} (hP:On D P) (hQ:On D Q):1+tt D P Q≠0:=fun h=>uf hD hP hQ (by generalize tt D P Q=t at *;grind)
theorem pf {D:Fp} (hD:NS D) {P Q:Fp × Fp} (hP:On D P) (hQ:On D Q):1 - tt D P Q≠0:=fun h=>uf hD hP hQ (by generalize tt D P Q=t at *;grind)
def dc (D:Fp) (P Q:Fp × Fp):Fp × Fp:=((P.1*Q.2+Q.1*P.2)*fi (1+D*P.1*Q.1*P.2*Q.2),(P.2*Q.2 - P.1*Q.1)*fi (1 - D*P.1*Q.1*P.2*Q.2))
theorem f7 {D:Fp} (hD:NS D) {P Q:Fp × Fp} (hP:On D P) (hQ:On D Q):On D (dc D P Q) :=
 Ah hP hQ (cW (oV hD hP hQ)) (cW (pf hD hP hQ))
theorem wL {D:Fp} (hD:NS D) {P Q R:Fp × Fp} (hP:On D P) (hQ:On D Q) (hR:On D R):dc D (dc D P Q) R=dc D P (dc D Q R):=by
 have i1:=cW (oV hD hP hQ);have j1:=cW (pf hD hP hQ);have i2:=cW (oV hD hQ hR);have j2:=cW (pf hD hQ hR);have i3:=cW (oV hD (f7 hD hP hQ) hR);have j3:=cW (pf hD (f7 hD hP hQ) hR);have i4:=cW (oV hD hP (f7 hD hQ hR));have j4:=cW (pf hD hP (f7 hD hQ hR));refine Prod.ext ?_ ?_
 · exact vh (Ej i1 j1 i2 j2 (wT hP hQ hR)) i3 i4
 · exact vh (Fa i1 j1 i2 j2 (xn hP hQ hR)) j3 j4
def dR:Fp × Fp:=(0,1)
theorem ot (D:Fp):On D dR:=by unfold On dR;simp only;grind
theorem Hh:fi 1=1:=by
 have:=cW (a:=1) (by decide);generalize fi 1=i at *
 grind
theorem AX (D:Fp) (P:Fp × Fp):dc D P dR=P:=by
 unfold dc dR;simp only;rw [JA,JB,Hh];refine Prod.ext ?_ ?_
 · exact Jl
 · exact Jx
def cK (D:Fp):Nat→Fp × Fp→Fp × Fp
 | 0,_=>dR
 | n+1,P=>dc D (cK D n P) P
theorem ie {D:Fp} (hD:NS D) {P:Fp × Fp} (h:On D P):∀ n,On D (cK D n P)
 | 0=>ot D
 | n+1=>f7 hD (ie hD h n) h
theorem lB {D:Fp} (hD:NS D) {P:Fp × Fp} (h:On D P) (m:Nat):∀ n,cK D (m+n) P=dc D (cK D m P) (cK D n P)
 | 0=>(AX D _).symm
 | n+1=>by
  show dc D (cK D (m+n) P) P=_;rw [lB hD h m n,wL hD (ie hD h m) (ie hD h n) h];rfl
def cF (a:Nat):Fp:=⟨a%pF,JZ _ (by decide)⟩
theorem wG (a b:Nat):cF (fj a b)=cF a+cF b:=Fin.ext (by rw [Fin.val_add];show (a+b)%pF%pF=(a%pF+b%pF)%pF;rw [Nat.mod_mod,←Nat.add_mod])
theorem gt (a b:Nat):cF (av a b)=cF a*cF b:=Fin.ext (by rw [Fin.val_mul];show (a*b)%pF%pF=(a%pF*(b%pF))%pF;rw [Nat.mod_mod,←Nat.mul_mod])
theorem nV (a b:Nat) (hb:b<pF):cF (cj a b)=cF a - cF b:=Fin.ext (by
 rw [Fin.sub_def];show (a+pF - b)%pF%pF=(pF - b%pF+a%pF)%pF
 rw [Nat.mod_mod,Nat.mod_eq_of_lt hb,Nat.add_mod_mod,show a+pF - b=pF - b+a by omega])
theorem Hv (a:Nat) (ha:a<pF):cF (de a)=fi (cF a):=Fin.ext (by
 show de a%pF=de (a%pF)
 rw [Nat.mod_eq_of_lt (tw a),Nat.mod_eq_of_lt ha])
theorem CY {a b:Nat} (ha:a<pF) (hb:b<pF) (h:cF a=cF b):a=b:=by
 have:=congrArg Fin.val h
 change a%pF=b%pF at this
 rwa [Nat.mod_eq_of_lt ha,Nat.mod_eq_of_lt hb] at this
def iM:Nat:=19681161376707505956807079304988542015446066515923890162744021073123829784752
theorem Ie:2 ^ 14474011154664524427946373126085988481658748083205070504932198000989141204987%pF=iM:=by
 rw [←ir pF 2 253 14474011154664524427946373126085988481658748083205070504932198000989141204987 (by decide)]
 kernel_rfl
theorem FY:iM*iM%pF=pF - 1:=by kernel_rfl
def me (x:Nat):Nat:=if x%2=1 then (0+pF - x)%pF else x
def fZ (k u v:Nat):Nat:=(u*(v*v%pF*v%pF)%pF*(v*v%pF*v%pF)%pF*v%pF) ^ k%pF*u%pF*(v*v%pF*v%pF)%pF
def df (k u v:Nat):Option Nat :=
 if fZ k u v*fZ k u v%pF*v%pF=u then some (me (fZ k u v))
 else if fZ k u v*fZ k u v%pF*v%pF=(0+pF - u)%pF then some (me (fZ k u v*iM%pF)) else none
def gL (u v:Nat):Nat:=u*(v ^ (pF - 2)%pF)%pF
def dv (k u v:Nat):Nat:=gL u v ^ (k+1)%pF
def fw (k u v:Nat):Nat:=if dv k u v*dv k u v%pF=gL u v then dv k u v else dv k u v*iM%pF
def eE (k u v:Nat):Option Nat:=if fw k u v*fw k u v%pF=gL u v∧¬(v=0∧u≠0) then some (me (fw k u v)) else none
theorem wZ (a b:Nat):a%pF*b%pF=a*b%pF:=by rw [Nat.mul_mod,Nat.mod_mod,←Nat.mul_mod]
theorem CL (a b:Nat):a*(b%pF)%pF=a*b%pF:=by rw [Nat.mul_mod,Nat.mod_mod,←Nat.mul_mod]
theorem HU (a n:Nat):(a%pF) ^ n%pF=a ^ n%pF:=(Nat.pow_mod a n pF).symm
theorem Dt {k u v:Nat} (hk:8*k+5=pF) (hv0:v≠0) (hv:v<pF):fZ k u v=dv k u v:=by
 have hf:=tz.fermat1 (zj hv0 hv);have hw:=nj hv0 hv;unfold fZ dv gL;generalize v ^ (pF - 2)%pF=w at hw ⊢;rw [show pF - 1=8*k+4 by omega,wl] at hf;clear hk hv hv0
 have e1:(u*(v*v%pF*v%pF)%pF*(v*v%pF*v%pF)%pF*v%pF) ^ k%pF=(u*v ^ 7) ^ k%pF:=by
  have:u*(v*v%pF*v%pF)%pF*(v*v%pF*v%pF)%pF*v%pF=u*v ^ 7%pF:=by
   simp only [wZ,CL];congr 1;simp only [Nat.pow_succ,Nat.pow_zero,Nat.one_mul]
   ac_rfl
  rw [this,HU]
 rw [e1]
 have e2:(u*v ^ 7) ^ k%pF*u%pF*(v*v%pF*v%pF)%pF=u ^ (k+1)*v ^ (7*k+3)%pF:=by
  simp only [wZ,CL];congr 1;rw [Nat.mul_pow,←Nat.pow_mul,Nat.pow_add v (7*k) 3,Nat.pow_succ u k];simp only [Nat.pow_succ,Nat.pow_zero,Nat.one_mul]
  ac_rfl
 rw [e2,HU,Nat.mul_pow]
 have e3:v ^ (7*k+3)%pF=w ^ (k+1)%pF:=by
  have h1:v ^ (7*k+3)*(v*w) ^ (k+1)%pF=v ^ (7*k+3)%pF:=by
   rw [Nat.mul_mod,Nat.pow_mod (v*w),hw,Nat.one_pow,wl,Nat.mul_one,Nat.mod_mod]
  have h2:v ^ (7*k+3)*(v*w) ^ (k+1)=v ^ (8*k+4)*w ^ (k+1):=by
   rw [Nat.mul_pow,←Nat.mul_assoc,←Nat.pow_add];congr 2;omega
  rw [←h1,h2,Nat.mul_mod,hf,Nat.one_mul,Nat.mod_mod]
 rw [Nat.mul_mod,e3,←Nat.mul_mod]
theorem C9 {x u v w:Nat} (hu:u<pF) (hw:v*w%pF=1):x*x%pF*v%pF=u↔x*x%pF=u*w%pF:=by
 constructor
 · intro h
   have e:x*x%pF*v%pF*w%pF=x*x%pF:=by
    rw [wZ,Nat.mul_assoc,Nat.mul_mod,hw,Nat.mul_one,Nat.mod_mod,Nat.mod_mod]
   rw [←e,h]
 · intro h
   rw [h,wZ,Nat.mul_assoc,Nat.mul_comm w v,Nat.mul_mod,hw,Nat.mul_one,Nat.mod_mod,Nat.mod_eq_of_lt hu]
theorem CV (u:Nat):(0+pF - u)%pF<pF:=JZ _ db
theorem neg_mul (u w:Nat) (hu:u<pF):(0+pF - u)%pF*w%pF=(0+pF - u*w%pF)%pF:=by
 rw [Nat.zero_add,wZ,Nat.sub_mul];have h1:u*w≤pF*w:=Nat.mul_le_mul_right _ (Nat.le_of_lt hu);have hd:=Nat.div_add_mod (u*w) pF;have hm:u*w%pF<pF:=JZ _ db;generalize u*w=T at *;generalize T%pF=m at *;generalize T / pF=d at *
 by_cases h0:m=0
 · have e:pF*w - T=pF*(w - d):=by rw [Nat.mul_sub];omega
   rw [e,Nat.mul_mod_right,h0,Nat.sub_zero,Nat.mod_self]
 · have hdw:d<w:=by
    rcases Nat.lt_or_ge d w with h | h
    · exact h
    · have:=Nat.mul_le_mul_left pF h
      omega
   have e:pF*w - T=(pF - m)+pF*(w - d - 1):=by
    have h3:pF*(w - d - 1)=pF*w - pF*d - pF:=by rw [Nat.mul_sub,Nat.mul_sub,Nat.mul_one]
    have h4:pF*d+pF≤pF*w:=by
     have:=Nat.mul_le_mul_left pF (show d+1≤w by omega)
     rwa [Nat.mul_succ] at this
    omega
   rw [e,Nat.add_mul_mod_self_left]
theorem tm {a b:Nat} (ha:a<pF) (hb:b<pF):(0+pF - a)%pF=b↔a=(0+pF - b)%pF:=by
 unfold pF at *;omega
theorem vn {i:Nat} (hi:i*i%pF=pF - 1) (x:Nat):x*i%pF*(x*i%pF)%pF=(0+pF - x*x%pF)%pF:=by
 have e:x*i%pF*(x*i%pF)%pF=(i*i%pF)*(x*x%pF)%pF:=by
  simp only [wZ,CL];congr 1
  ac_rfl
 have h1:(0+pF - 1)%pF=pF - 1:=by decide
 have h2:=neg_mul 1 (x*x%pF) (by decide);rw [h1,Nat.one_mul,Nat.mod_mod] at h2;rw [e,hi,h2]
theorem mf {k u v:Nat} (hk:8*k+5=pF) (hu:u<pF) (hv:v<pF):df k u v=eE k u v:=by
 by_cases hv0:v=0
 · subst hv0
   have hX:fZ k u 0=0:=by unfold fZ;simp only [Nat.mul_zero,Nat.zero_mod]
   have hq:gL u 0=0:=by unfold gL;rw [Bm,Nat.mul_zero,Nat.zero_mod]
   have hY:dv k u 0=0:=by unfold dv;rw [hq,Nat.zero_pow (Nat.succ_pos k),Nat.zero_mod]
   have hZ:fw k u 0=0:=by unfold fw;rw [hY,hq,if_pos (by rw [Nat.mul_zero,Nat.zero_mod])]
   unfold df eE;rw [hX,hZ,hq];have e0:0*0%pF*0%pF=0:=rfl;have e1:0*0%pF=0:=rfl
   by_cases hu0:u=0
   · subst hu0
     rw [if_pos e0,if_pos ⟨e1,fun h=>h.2 rfl⟩]
   · rw [if_neg (fun h=>hu0 (e0 ▸ h).symm),if_neg (fun h=>by rw [e0] at h;unfold pF at *;omega),if_neg (fun h=>h.2 ⟨rfl,hu0⟩)]
 · have hw:=nj hv0 hv
   have hXY:=Dt (u:=u) hk hv0 hv;have hYl:dv k u v<pF:=JZ _ db;unfold df eE fw;rw [hXY];have hql:gL u v<pF:=JZ _ db;have s1:=C9 (x:=dv k u v) hu hw;have s2:=C9 (x:=dv k u v) (CV u) hw;have hqe:u*(v ^ (pF - 2)%pF)%pF=gL u v:=rfl;rw [neg_mul u _ hu] at s2;rw [hqe] at s1 s2;generalize dv k u v=y at *;generalize gL u v=q at *;have ht:=vn FY y;have hyl:y*y%pF<pF:=JZ _ db
   by_cases h1:y*y%pF=q
   · rw [if_pos (s1.2 h1),if_pos h1,if_pos ⟨h1,fun h=>hv0 h.1⟩]
   · rw [if_neg (fun h=>h1 (s1.1 h)),if_neg h1]
     by_cases h2:y*y%pF=(0+pF - q)%pF
     · rw [if_pos (s2.2 h2),if_pos ⟨by rw [ht];exact (tm hyl hql).2 h2,fun h=>hv0 h.1⟩]
     · rw [if_neg (fun h=>h2 (s2.1 h)),if_neg (fun h=>h2 ((tm hyl hql).1 (by rw [←ht];exact h.1)))]
end Go.Proofs.YtibdhadbflfdpaaGreatDoor
