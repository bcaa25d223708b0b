/- What the proof stands on: PNum, Prime, PrimeUse, PtA, RootMath, PtB, PtC, RQ. -/
import Derived.Test.YtdgkmloabificaaGreatDoorBaseM
import Derived.Test.YtdgkmloabificaaGreatDoorLimbsM
import Derived.Laws.StructEq
namespace Go.Proofs.YtdgkmloabificaaGreatDoor
open Go.RowKit
theorem fresh4' (w:World):RW (w.alloc (.cells #[.int .u64 0,.int .u64 0,.int .u64 0,.int .u64 0] 51)) w.heap.size 0 (c4 0):=by
 rw [c4_zero];exact RW.fresh w _ _
theorem num_store {o:Oper} {a:Act} {cur V:World} {K:Act→World→Prop} {Q:Exit→Act→World→Prop} (x y:Operand) (ho:o.op = .store 51 x y) (g m n:Nat) (hx:a.eval x = .pointer (some ⟨g,0,none⟩)) (hy:a.eval y=numV n) (r:RW cur g 0 (c4 m)) (S:Below V.heap.size V cur) (G:V.heap.size≤g)
 (h:∀ W1,RW W1 g 0 (c4 n)→Below V.heap.size V W1→(∀ b p cs,b≠g→RW cur b p cs→RW W1 b p cs)→K (a.put o.dst undef) W1):o.wp Tryz.prog a cur K Q :=
 wp_store_mid 51 x y ho g 0 (c4 n).toArray hx hy r.there info4 (one4 n) (h _ (r.stored (c4 n) rfl) (below_setCells G _ _ _ S) (fun _ _ _ hne hr=>hr.far g 0 (c4 n) (.inl hne)))
section
variable {md:Region.Mode} {ops:Array Oper} {Q:Exit→Act→World→Prop} {fuel:Nat} {listed:Array Bool} {a:Act} {w V:World}
theorem arN {i:Nat} {rs:List Nat} (oi:Oper) (hS:Below V.heap.size V w) (h:∀ w1 g,V.heap.size≤g→w.heap.size≤g→Below w.heap.size w w1→RW w1 g 0 (c4 0)→Below V.heap.size V w1→wpAnyH Tryz.prog md ops Q (fun u=>Below V.heap.size V u) fuel (listed.setIfInBounds i true) (a.put oi.dst (pA g 0)) w1) (hs:AllReadyH Tryz.prog md ops Q (fun u=>Below V.heap.size V u) fuel listed a w rs)
 (hrun:(execOp a.eval oi).run Tryz.prog w = .ok (.value (pA w.heap.size 0)) (w.alloc (.cells #[.int .u64 0,.int .u64 0,.int .u64 0,.int .u64 0] 51)):=by kernel_rfl) (hi:ops[i]? = some oi:=by rfl) (hw:Region.wanted oi (yielded ops a.tmps)=true:=by rfl):AllReadyH Tryz.prog md ops Q (fun u=>Below V.heap.size V u) fuel listed a w (i :: rs) :=
 have hb:Below w.heap.size w (w.alloc (.cells #[.int .u64 0,.int .u64 0,.int .u64 0,.int .u64 0] 51)):=bR.alloc (Nat.le_refl _) _
 arA oi ⟨below_next hS hb,h _ _ hS.size (Nat.le_refl _) hb (fresh4' w) (below_next hS hb)⟩ hs hrun hi hw
theorem arS {i:Nat} {rs:List Nat} (oi:Oper) (x y:Nat) {g m:Nat} (n:Nat) (r:RW w g 0 (c4 m)) (hS:Below V.heap.size V w) (G:V.heap.size≤g) (h:∀ w1,RW w1 g 0 (c4 n)→Below V.heap.size V w1→(∀ b p cs,b≠g→RW w b p cs→RW w1 b p cs)→wpAnyH Tryz.prog md ops Q (fun u=>Below V.heap.size V u) fuel (listed.setIfInBounds i true) (a.put oi.dst undef) w1) (hs:AllReadyH Tryz.prog md ops Q (fun u=>Below V.heap.size V u) fuel listed a w rs)
 (ho:oi.op = .store 51 (.tmp x) (.tmp y):=by rfl) (hx:a.eval (.tmp x) = .pointer (some ⟨g,0,none⟩):=by rfl) (hy:a.eval (.tmp y)=numV n:=by rfl) (hi:ops[i]? = some oi:=by rfl) (hw:Region.wanted oi (yielded ops a.tmps)=true:=by rfl):AllReadyH Tryz.prog md ops Q (fun u=>Below V.heap.size V u) fuel listed a w (i :: rs):=by
 refine AllReadyH.cons hi (fun K hK => ?_) hs
 rw [if_pos hw]
 exact num_store _ _ ho g m n hx hy r hS G (fun w1 r1 hS1 far=>hK.out _ _ hS1 (fun _=>h w1 r1 hS1 far))
theorem ldN {o:Oper} {g off n:Nat} (h:RW V g off (c4 n)) (k:Nat) (hw:Region.wanted o (yielded ops a.tmps)=true:=by rfl) (ho:o.op = .load 51 (.tmp k):=by rfl) (hx:a.eval (.tmp k) = .pointer (some ⟨g,off,none⟩):=by rfl):YieldsIf Tryz.prog ops (fun w'=>Below V.heap.size V w') o (numV n) a :=
 ldH h 51 k Tryz.underlying51 info4 rfl hw ho hx
end
theorem fresh4t (w:World) (n:Nat):(w.alloc (.cells #[.int .u64 0,.int .u64 0,.int .u64 0,.int .u64 0] 51)).there w.heap.size 0 (c4 n).toArray.size:=(fresh4' w).there
theorem info4a (n:Nat):(Tryz.prog.info? 51).map (·.size)=some (c4 n).toArray.size:=info4
theorem lw_inj {a b:Nat} (ha:a<pF) (hb:b<pF) (h0:lw a 0=lw b 0) (h1:lw a 1=lw b 1) (h2:lw a 2=lw b 2) (h3:lw a 3=lw b 3):a=b:=by
 unfold lw at *
 unfold pF at *
 simp only [Nat.pow_zero,Nat.div_one,Nat.pow_one] at *
 omega
theorem run_isAgg_int {P:Program} (w:World) (e:Nat) (k:IntKind) (he:P.underlying e=some (.int k)):(isAgg e).run P w = .ok false w:=by
 simp [isAgg,run_underlying he]
theorem run_eq4 {P:Program} (w:World) (d t e:Nat) (k:IntKind) (ht:P.underlying t=some (.array 4 e)) (he:P.underlying e=some (.int k)) (hs:(sizeOf e).run P w = .ok 1 w) (a0 a1 a2 a3 b0 b1 b2 b3:Int) :
 (Op.equalIn (d+2) t (.agg #[.int k a0,.int k a1,.int k a2,.int k a3]) (.agg #[.int k b0,.int k b1,.int k b2,.int k b3])).run P w = .ok (a0 == b0 && a1 == b1 && a2 == b2 && a3 == b3) w:=by
 rw [Op.equalIn]
 simp only [Sem.run_bind,run_underlying ht,Result.andThen_ok,hs]
 have hp:∀ (xs:Array Value) (i:Nat) (v:Value),xs[i]? = some v→(part e xs i).run P w = .ok v w:=fun xs i v h=>by
  simp [part,run_isAgg_int w e k he,h]
 simp only [Std.Legacy.Range.forIn_eq_forIn_range',Std.Legacy.Range.size]
 simp [List.range',hp,run_equalIn_int w d e k k _ _ he]
 cases h0:(a0 == b0) <;> cases h1:(a1 == b1) <;> cases h2:(a2 == b2) <;> cases h3:(a3 == b3) <;> simp_all
theorem part_num (w:World) (x0 x1 x2 x3:Value):(part 49 #[x0,x1,x2,x3] 0).run Tryz.prog w = .ok (.agg #[x0,x1,x2,x3]) w:=by kernel_rfl
theorem eq_num (w:World) {a b:Nat} (ha:a<pF) (hb:b<pF):(Op.equalIn 10000 51 (numV a) (numV b)).run Tryz.prog w = .ok (decide (a=b)) w:=by
 unfold numV
 rw [show (10000:Nat)=9999+1 from rfl,run_equalIn_agg w 9999 51 _ _ (by kernel_rfl) (by kernel_rfl)]
 simp only [Program.fieldsOf,Tryz.underlying51,Op.eqFields]
 rw [if_pos (by decide)]
 simp only [Sem.run_bind]
 rw [part_num]
 simp only [Result.andThen_ok]
 rw [part_num]
 simp only [Result.andThen_ok]
 rw [show (9999:Nat)=9997+2 from rfl,run_eq4 w 9997 49 47 .u64 (by kernel_rfl) (by kernel_rfl) (by kernel_rfl)]
 simp only [Result.andThen_ok]
 by_cases h:a=b
 · subst h
   simp
 · have hn:((lw a 0:Int) == (lw b 0:Int) && (lw a 1:Int) == (lw b 1:Int) && (lw a 2:Int) == (lw b 2:Int) && (lw a 3:Int) == (lw b 3:Int))=false:=by
    rcases Bool.eq_false_or_eq_true ((lw a 0:Int) == (lw b 0:Int) && (lw a 1:Int) == (lw b 1:Int) && (lw a 2:Int) == (lw b 2:Int) && (lw a 3:Int) == (lw b 3:Int)) with e | e
    · exfalso
      simp only [Bool.and_eq_true,beq_iff_eq] at e
      exact h (lw_inj ha hb (by omega) (by omega) (by omega) (by omega))
    · exact e
   rw [hn,decide_eq_false h]
   simp
theorem exec_neq (w:World) {a b:Nat} (ha:a<pF) (hb:b<pF) (x y:Operand):(do eqGuard .neq 51 x y (numV a) (numV b);binOp .neq 51 (numV a) (numV b):Sem Value).run Tryz.prog w = .ok (.bool (!decide (a=b))) w:=by
 rw [Sem.run_bind,show (eqGuard .neq 51 x y (numV a) (numV b)).run Tryz.prog w = .ok () w from run_eqGuard_agg w .neq 51 x y _ _ (by kernel_rfl)]
 simp only [Result.andThen_ok]
 rw [show (binOp .neq 51 (numV a) (numV b)).run Tryz.prog w=((Op.equalIn 10000 51 (numV a) (numV b)).run Tryz.prog w).andThen fun b w' => .ok (.bool (!b)) w' from run_neq_struct w 51 _ _,eq_num w ha hb]
 rfl
theorem wpList_neq {ops:Array Oper} {rest:List Oper} {op:Oper} {a:Act} {w:World} {Q:Exit→Act→World→Prop} (hgd:op.guard=none) (x y:Operand) (t2:TypeId) (ho:op.op = .binOp .neq 51 x y t2) (m n:Nat) (hm:m<pF) (hn:n<pF)
 (hx:a.eval x=numV m) (hy:a.eval y=numV n) (z:Bool) (hz:decide (m=n)=z) (h:wpList Tryz.prog ops Q rest (a.put op.dst (.bool (!z))) w):wpList Tryz.prog ops Q (op :: rest) a w :=
 wpList_plain hgd fun K hK=>by
  unfold Oper.wp execOp
  simp only [ho,hx,hy]
  rw [Sem.run_bind,exec_neq w hm hn,hz]
  exact hK _ _ h
theorem yields_neq {ops:Array Oper} {S:World→Prop} {o:Oper} {a:Act} (hw:Region.wanted o (yielded ops a.tmps)=true) (x y:Operand) (t2:TypeId) (ho:o.op = .binOp .neq 51 x y t2) (m n:Nat) (hm:m<pF) (hn:n<pF)
 (hx:a.eval x=numV m) (hy:a.eval y=numV n) (z:Bool) (hz:decide (m=n)=z):YieldsIf Tryz.prog ops S o (.bool (!z)) a:=by
 refine .inl ⟨hw,fun w _ => ?_⟩
 unfold execOp
 simp only [ho,hx,hy]
 rw [Sem.run_bind,exec_neq w hm hn,hz]
 rfl
end Go.Proofs.YtdgkmloabificaaGreatDoor
namespace Go.Proofs.YtdgkmloabificaaGreatDoor
def Prm (n:Nat):Prop:=2≤n∧∀ d,d ∣ n→d=1∨d=n
theorem Prm.pos {n:Nat} (h:Prm n):0<n:=Nat.lt_of_lt_of_le (by decide) h.1
theorem prime_factor:∀ n,2≤n→∃ q,Prm q∧q ∣ n:=by
 intro n
 induction n using Nat.strongRecOn with
 | _ n ih =>
  intro hn
  by_cases h:Prm n
  · exact ⟨n,h,Nat.dvd_refl n⟩
  · have:∃ d,d ∣ n∧d≠1∧d≠n:=by
     apply Classical.byContradiction
     intro hc
     refine h ⟨hn,fun d hd => ?_⟩
     by_cases e1:d=1
     · exact .inl e1
     · by_cases e2:d=n
       · exact .inr e2
       · exact absurd ⟨d,hd,e1,e2⟩ hc
    obtain ⟨d,hd,h1,h2⟩:=this
    have hle:=Nat.le_of_dvd (by omega) hd
    have h0:d≠0:=fun e=>by rw [e] at hd;have:=Nat.eq_zero_of_zero_dvd hd;omega
    obtain ⟨q,hq,hqd⟩:=ih d (by omega) (by omega)
    exact ⟨q,hq,Nat.dvd_trans hqd hd⟩
theorem Prm.gcd {p:Nat} (h:Prm p) {a:Nat} (ha:¬p ∣ a):Nat.gcd p a=1:=by
 rcases h.2 _ (Nat.gcd_dvd_left p a) with e | e
 · exact e
 · exact absurd (e ▸ Nat.gcd_dvd_right p a) ha
theorem Prm.euclid {p:Nat} (h:Prm p) {a b:Nat} (hab:p ∣ a*b):p ∣ a∨p ∣ b:=by
 by_cases ha:p ∣ a
 · exact .inl ha
 · exact .inr (Nat.Coprime.dvd_of_dvd_mul_left (h.gcd ha) hab)
def cho:Nat→Nat→Nat
 | _,0=>1
 | 0,_+1=>0
 | n+1,k+1=>cho n k+cho n (k+1)
theorem cho_zero (n:Nat):cho n 0=1:=by cases n <;> rfl
theorem cho_big:∀ n k,n<k→cho n k=0
 | 0,k+1,_=>rfl
 | n+1,k+1,h=>by rw [cho,cho_big n k (by omega),cho_big n (k+1) (by omega)]
theorem cho_self:∀ n,cho n n=1
 | 0=>rfl
 | n+1=>by rw [cho,cho_self n,cho_big n (n+1) (by omega)]
theorem cho_mul:∀ n k,(k+1)*cho (n+1) (k+1)=(n+1)*cho n k
 | 0,0=>rfl
 | 0,k+1=>by rw [cho,cho,cho];rfl
 | n+1,0=>by
  have h:=cho_mul n 0
  rw [cho_zero] at h ⊢
  rw [cho,cho_zero]
  omega
 | n+1,k+1=>by
  have h1:=cho_mul n k
  have h2:=cho_mul n (k+1)
  have e1:cho (n+2) (k+2)=cho (n+1) (k+1)+cho (n+1) (k+2):=rfl
  have e2:cho (n+1) (k+1)=cho n k+cho n (k+1):=rfl
  rw [show n+1+1=n+2 from rfl,show k+1+1=k+2 from rfl] at *
  have e3:(k+2)*cho (n+1) (k+1)=(n+1)*cho n k+cho (n+1) (k+1):=by
   rw [show k+2=(k+1)+1 from rfl,Nat.succ_mul,h1]
  have e4:(n+1)*cho (n+1) (k+1)=(n+1)*cho n k+(n+1)*cho n (k+1):=by rw [e2,Nat.mul_add]
  have e5:(n+2)*cho (n+1) (k+1)=(n+1)*cho (n+1) (k+1)+cho (n+1) (k+1):=Nat.succ_mul _ _
  rw [e1,Nat.mul_add,h2,e3,e5,e4]
  omega
def bin (a n:Nat):Nat→Nat
 | 0=>0
 | m+1=>bin a n m+cho n m*a ^ m
theorem bin_step (a n:Nat):∀ m,bin a (n+1) (m+1)=bin a n (m+1)+a*bin a n m
 | 0=>by simp [bin,cho_zero]
 | m+1=>by
  rw [bin,bin_step a n m]
  have e:cho (n+1) (m+1)=cho n m+cho n (m+1):=rfl
  rw [e,Nat.add_mul]
  have h1:bin a n (m+1+1)=bin a n (m+1)+cho n (m+1)*a ^ (m+1):=rfl
  have h2:bin a n (m+1)=bin a n m+cho n m*a ^ m:=rfl
  rw [h1,h2,Nat.mul_add,Nat.pow_succ]
  have e2:a*(cho n m*a ^ m)=cho n m*(a ^ m*a):=by rw [Nat.mul_comm a,Nat.mul_assoc]
  rw [e2];omega
theorem bin_pow (a:Nat):∀ n,bin a n (n+1)=(a+1) ^ n
 | 0=>by simp [bin,cho_zero]
 | n+1=>by
  rw [bin_step]
  have h1:bin a n (n+1+1)=bin a n (n+1)+cho n (n+1)*a ^ (n+1):=rfl
  rw [h1,cho_big n (n+1) (by omega),Nat.zero_mul,Nat.add_zero,bin_pow a n,Nat.pow_succ,Nat.mul_comm _ (a+1),Nat.succ_mul,Nat.add_comm]
theorem bin_mod {p:Nat} (h:Prm p) (a:Nat):∀ m,m+1≤p→bin a p (m+1)%p=1%p
 | 0,_=>by simp [bin,cho_zero]
 | m+1,hm=>by
  have ih:=bin_mod h a m (by omega)
  have hd:p ∣ cho p (m+1):=by
   obtain ⟨n,rfl⟩:∃ n,p=n+1:=⟨p - 1,by have:=h.pos;omega⟩
   have e:=cho_mul n m
   have:n+1 ∣ (m+1)*cho (n+1) (m+1):=⟨_,e⟩
   rcases h.euclid this with h1 | h1
   · have:=Nat.le_of_dvd (by omega) h1;omega
   · exact h1
  have e:bin a p (m+1+1)=bin a p (m+1)+cho p (m+1)*a ^ (m+1):=rfl
  obtain ⟨c,hc⟩:=hd
  rw [e,hc,Nat.mul_assoc,Nat.add_mul_mod_self_left,ih]
theorem Prm.fermat {p:Nat} (h:Prm p):∀ a,a ^ p%p=a%p
 | 0=>by rw [Nat.zero_pow h.pos]
 | a+1=>by
  have e1:=bin_pow a p
  have e2:bin a p (p+1)=bin a p p+cho p p*a ^ p:=rfl
  obtain ⟨n,hn⟩:∃ n,p=n+1:=⟨p - 1,by have:=h.pos;omega⟩
  have e3:=bin_mod h a n (by omega)
  rw [←hn] at e3
  rw [←e1,e2,cho_self,Nat.one_mul,Nat.add_mod,e3,h.fermat a,←Nat.add_mod,Nat.add_comm]
theorem Prm.fermat1 {p:Nat} (h:Prm p) {a:Nat} (ha:¬p ∣ a):a ^ (p - 1)%p=1%p:=by
 have h1:=h.fermat a
 have hp:=h.pos
 obtain ⟨n,rfl⟩:∃ n,p=n+1:=⟨p - 1,by omega⟩
 rw [Nat.pow_succ] at h1
 rw [Nat.add_sub_cancel]
 have key:∀ x,(x*a)%(n+1)=a%(n+1)→x%(n+1)=1%(n+1):=by
  intro x hx
  have hd:n+1 ∣ ((x:Int)*a - a).natAbs:=by
   have:((n+1:Nat):Int) ∣ (x:Int)*a - a:=by
    apply Int.dvd_of_emod_eq_zero
    rw [Int.sub_emod,←Int.natCast_mul,←Int.natCast_emod,←Int.natCast_emod,hx,Int.sub_self,Int.zero_emod]
   exact Int.ofNat_dvd_left.1 this
  have e:((x:Int)*a - a)=((x:Int) - 1)*a:=by rw [Int.sub_mul,Int.one_mul]
  rw [e,Int.natAbs_mul,Int.natAbs_natCast] at hd
  rcases h.euclid hd with h2 | h2
  · have h3:((n+1:Nat):Int) ∣ (x:Int) - 1:=Int.ofNat_dvd_left.2 h2
    have h4:=Int.emod_eq_zero_of_dvd h3
    have h5:=(Int.emod_eq_emod_iff_emod_sub_eq_zero (m:=(x:Int)) (n:=((n+1:Nat):Int)) (k:=1)).2 h4
    have h6:(((x%(n+1):Nat):Int))=((1%(n+1):Nat):Int):=by
     rw [Int.natCast_emod,Int.natCast_emod];exact h5
    exact Int.ofNat_inj.1 h6
  · exact absurd h2 ha
 exact key _ h1
def pm (N a:Nat):Nat→Nat→Nat
 | 0,_=>1%N
 | k+1,e=>pm N a k (e / 2) ^ 2%N*a ^ (e%2)%N
theorem pm_eq (N a:Nat):∀ k e,e<2 ^ k→pm N a k e=a ^ e%N
 | 0,e,h=>by
  have:e=0:=by simpa using h
  rw [this,pm,Nat.pow_zero]
 | k+1,e,h=>by
  rw [pm,pm_eq N a k (e / 2) (by rw [Nat.pow_succ] at h;omega),←Nat.pow_mod,←Nat.pow_mul,Nat.mul_mod,Nat.mod_mod,←Nat.mul_mod,←Nat.pow_add]
  congr 2;omega
theorem pow_gcd (a s:Nat) (m n:Nat):a ^ m%s=1%s→a ^ n%s=1%s→a ^ (Nat.gcd m n)%s=1%s:=by
 induction m,n using Nat.gcd.induction with
 | H0 n=>intro _ h;rw [Nat.gcd_zero_left];exact h
 | H1 m n hm ih =>
  intro h1 h2
  rw [Nat.gcd_rec]
  refine ih ?_ h1
  have e:a ^ n=(a ^ m) ^ (n / m)*a ^ (n%m):=by rw [←Nat.pow_mul,←Nat.pow_add,Nat.div_add_mod]
  rw [e,Nat.mul_mod,Nat.pow_mod,h1,←Nat.pow_mod,Nat.one_pow,←Nat.mul_mod,Nat.one_mul] at h2
  exact h2
theorem pock {N f Q a:Nat} (hf:Prm f) (hN:N=f*Q+1) (hQ:0<Q) (h1:a ^ (N - 1)%N=1) (h2:Nat.gcd (a ^ Q%N+N - 1) N=1) (hs:Q / f+1<Q%f):Prm N:=by
 have hfp:=hf.pos
 have hf2:=hf.1
 have hNp:2≤N:=by
  have:1≤f*Q:=Nat.mul_pos hfp hQ
  omega
 have hN1:N - 1=f*Q:=by omega
 have step:∀ q,Prm q→q ∣ N→f ∣ q - 1:=fun q hq hqN=>by
  apply Classical.byContradiction
  intro hnd
  have hq1:1%q=1:=Nat.mod_eq_of_lt hq.1
  have e1:a ^ (N - 1)%q=1%q:=by rw [←Nat.mod_mod_of_dvd (a ^ (N - 1)) hqN,h1]
  have hqa:¬q ∣ a:=fun hd=>by
   have hd2:q ∣ a ^ (N - 1):=Nat.dvd_trans hd (by
    obtain ⟨k,hk⟩:∃ k,N - 1=k+1:=⟨N - 2,by omega⟩
    rw [hk,Nat.pow_succ];exact Nat.dvd_mul_left _ _)
   rw [Nat.mod_eq_zero_of_dvd hd2,hq1] at e1
   omega
  have e2:=hq.fermat1 hqa
  have e3:=pow_gcd a q _ _ e1 e2
  have hg1:=Nat.gcd_dvd_left (N - 1) (q - 1)
  have hg2:=Nat.gcd_dvd_right (N - 1) (q - 1)
  generalize Nat.gcd (N - 1) (q - 1)=g at *
  have hfg:¬f ∣ g:=fun h=>hnd (Nat.dvd_trans h hg2)
  rw [hN1] at hg1
  have hgQ:g ∣ Q:=Nat.Coprime.dvd_of_dvd_mul_left (Nat.Coprime.symm (hf.gcd hfg)) hg1
  obtain ⟨c,hc⟩:=hgQ
  have e4:a ^ Q%q=1:=by rw [hc,Nat.pow_mul,Nat.pow_mod,e3,←Nat.pow_mod,Nat.one_pow,hq1]
  have e5:a ^ Q%N%q=1:=by rw [Nat.mod_mod_of_dvd _ hqN,e4]
  have hd:q ∣ a ^ Q%N+N - 1:=by
   generalize a ^ Q%N=y at e5
   obtain ⟨n,hn⟩:=hqN
   have hy:y=q*(y / q)+1:=by have:=Nat.div_add_mod y q;omega
   refine ⟨y / q+n,?_⟩
   rw [Nat.mul_add,←hn]
   omega
  have:=Nat.dvd_gcd hd hqN
  rw [h2] at this
  have:=Nat.le_of_dvd (by decide) this
  have:=hq.1
  omega
 obtain ⟨q,hq,hqN⟩:=prime_factor N hNp
 by_cases e:q=N
 · rw [←e];exact hq
 · exfalso
   obtain ⟨t,ht⟩:=hqN
   obtain ⟨x,hx⟩:=step q hq ⟨t,ht⟩
   have hq2:=hq.1
   have hqe:q=f*x+1:=by omega
   have hx0:0<x:=by
    apply Nat.pos_of_ne_zero
    intro h0;rw [h0,Nat.mul_zero] at hqe;omega
   have e1:f*Q+1=(f*x+1)*t:=by rw [←hqe,←ht,hN]
   have e2:f*Q+1=f*(x*t)+t:=by rw [e1,Nat.add_mul,Nat.one_mul,Nat.mul_assoc]
   have ht0:0<t:=by
    apply Nat.pos_of_ne_zero
    intro h0;rw [h0,Nat.mul_zero] at ht;omega
   have hft:f ∣ t - 1:=by
    have h3:f*Q=f*(x*t)+(t - 1):=by omega
    have:f ∣ f*(x*t)+(t - 1):=⟨Q,h3.symm⟩
    exact (Nat.dvd_add_right (Nat.dvd_mul_right f _)).1 this
   obtain ⟨y,hy⟩:=hft
   have hte:t=f*y+1:=by omega
   have hy0:0<y:=by
    apply Nat.pos_of_ne_zero
    intro h0;rw [h0,Nat.mul_zero] at hte
    rw [hte,Nat.mul_one] at ht
    exact e ht.symm
   have h3:f*Q=f*(x*t)+f*y:=by omega
   have h4:Q=x*t+y:=Nat.eq_of_mul_eq_mul_left hfp (by rw [h3,Nat.mul_add])
   have h5:Q=f*(x*y)+(x+y):=by
    rw [h4,hte,Nat.mul_add,Nat.mul_one,Nat.mul_left_comm,Nat.add_assoc]
   have h6:x+y≤x*y+1:=by
    obtain ⟨u,rfl⟩:∃ u,x=u+1:=⟨x - 1,by omega⟩
    obtain ⟨v,rfl⟩:∃ v,y=v+1:=⟨y - 1,by omega⟩
    rw [Nat.add_mul,Nat.mul_add]
    omega
   have h7:x*y≤Q / f:=by
    rw [Nat.le_div_iff_mul_le hfp,Nat.mul_comm,h5]
    exact Nat.le_add_right _ _
   have h8:Q%f<f:=Nat.mod_lt _ hfp
   have h9:Q%f=x+y:=by
    rw [h5,Nat.mul_add_mod,Nat.mod_eq_of_lt (by omega)]
   omega
theorem prime_trial (n k:Nat) (hn:2≤n) (hk:n<k*k) (h:(List.range k).all (fun d=>decide (d<2) || decide (n%d≠0))=true):Prm n:=by
 obtain ⟨q,hq,hqn⟩:=prime_factor n hn
 have hno:∀ d,2≤d→d<k→¬d ∣ n:=fun d h2 hdk hd=>by
  have:=List.all_eq_true.1 h d (List.mem_range.2 hdk)
  rw [Bool.or_eq_true,decide_eq_true_eq,decide_eq_true_eq] at this
  rcases this with h3 | h3
  · omega
  · exact h3 (Nat.mod_eq_zero_of_dvd hd)
 by_cases e:q=n
 · rw [←e];exact hq
 · exfalso
   obtain ⟨t,ht⟩:=hqn
   have hq2:=hq.1
   have hqk:k≤q:=Nat.le_of_not_lt (fun hlt=>hno q hq2 hlt ⟨t,ht⟩)
   have ht0:t≠0:=fun h0=>by rw [h0,Nat.mul_zero] at ht;omega
   have ht1:t≠1:=fun h1=>by rw [h1,Nat.mul_one] at ht;exact e ht.symm
   have htk:k≤t:=Nat.le_of_not_lt (fun hlt=>hno t (by omega) hlt ⟨q,by rw [Nat.mul_comm];exact ht⟩)
   have:=Nat.mul_le_mul hqk htk
   omega
theorem prime0:Prm 8574133:=prime_trial 8574133 2929 (by decide) (by decide) (by kernel_rfl)
theorem prime1:Prm 1919519569386763 :=
 pock (f:=8574133) (Q:=223873314) (a:=2) prime0 (by decide) (by decide)
  (by rw [←pm_eq 1919519569386763 2 256 (1919519569386763 - 1) (by decide)];kernel_rfl)
  (by rw [←pm_eq 1919519569386763 2 256 223873314 (by decide)];kernel_rfl) (by decide)
theorem prime2:Prm 75445702479781427272750846543864801 :=
 pock (f:=1919519569386763) (Q:=39304471641247389600) (a:=2) prime1 (by decide) (by decide)
  (by rw [←pm_eq 75445702479781427272750846543864801 2 256 (75445702479781427272750846543864801 - 1) (by decide)];kernel_rfl)
  (by rw [←pm_eq 75445702479781427272750846543864801 2 256 39304471641247389600 (by decide)];kernel_rfl) (by decide)
theorem prime3:Prm 74058212732561358302231226437062788676166966415465897661863160754340907 :=
 pock (f:=75445702479781427272750846543864801) (Q:=981609426360740691344999861639072106) (a:=2) prime2 (by decide) (by decide)
  (by rw [←pm_eq 74058212732561358302231226437062788676166966415465897661863160754340907 2 256 (74058212732561358302231226437062788676166966415465897661863160754340907 - 1) (by decide)];kernel_rfl)
  (by rw [←pm_eq 74058212732561358302231226437062788676166966415465897661863160754340907 2 256 981609426360740691344999861639072106 (by decide)];kernel_rfl) (by decide)
theorem prime4:Prm 57896044618658097711785492504343953926634992332820282019728792003956564819949 :=
 pock (f:=74058212732561358302231226437062788676166966415465897661863160754340907) (Q:=781764) (a:=2) prime3 (by decide) (by decide)
  (by rw [←pm_eq 57896044618658097711785492504343953926634992332820282019728792003956564819949 2 256 (57896044618658097711785492504343953926634992332820282019728792003956564819949 - 1) (by decide)];kernel_rfl)
  (by rw [←pm_eq 57896044618658097711785492504343953926634992332820282019728792003956564819949 2 256 781764 (by decide)];kernel_rfl) (by decide)
theorem prime_p:Prm pF:=prime4
end Go.Proofs.YtdgkmloabificaaGreatDoor
namespace Go.Proofs.YtdgkmloabificaaGreatDoor
theorem not_dvd {x:Nat} (h0:x≠0) (hx:x<pF):¬pF ∣ x:=fun h=>by have:=Nat.le_of_dvd (Nat.pos_of_ne_zero h0) h;omega
theorem pF_one:1%pF=1:=by decide
theorem inv_mul {x:Nat} (h0:x≠0) (hx:x<pF):x*(x ^ (pF - 2)%pF)%pF=1:=by
 have h:=prime_p.fermat1 (not_dvd h0 hx)
 have e:pF - 1=(pF - 2).succ:=by decide
 rw [Nat.mul_mod,Nat.mod_mod,←Nat.mul_mod,Nat.mul_comm,←Nat.pow_succ,←e,h,pF_one]
theorem zero_inv:0 ^ (pF - 2)%pF=0:=by
 have e:0<pF - 2:=by decide
 rw [Nat.zero_pow e,Nat.zero_mod]
end Go.Proofs.YtdgkmloabificaaGreatDoor
namespace Go.Proofs.YtdgkmloabificaaGreatDoor
section
variable {n:Nat} [NeZero n]
theorem ed_closed {x1 y1 x2 y2 D i j:Fin n} (h1:x1^2+y1^2=1+D*x1^2*y1^2) (h2:x2^2+y2^2=1+D*x2^2*y2^2) (hi:(1+D*x1*x2*y1*y2)*i=1) (hj:(1-D*x1*x2*y1*y2)*j=1) :
 ((x1*y2+x2*y1)*i)^2+((y1*y2-x1*x2)*j)^2=1+D*((x1*y2+x2*y1)*i)^2*((y1*y2-x1*x2)*j)^2:=by
 have h:(x1*y2+x2*y1)^2*(1-D*x1*x2*y1*y2)^2+(y1*y2-x1*x2)^2*(1+D*x1*x2*y1*y2)^2=(1+D*x1*x2*y1*y2)^2*(1-D*x1*x2*y1*y2)^2+D*(x1*y2+x2*y1)^2*(y1*y2-x1*x2)^2:=by grind
 generalize x1*y2+x2*y1=a at *
 generalize y1*y2-x1*x2=b at *
 generalize 1+D*x1*x2*y1*y2=p at *
 generalize 1-D*x1*x2*y1*y2=m at *
 grind
theorem ed_cross {a b c d e f:Fin n} (h:a*d=c*b) (hb:b*e=1) (hd:d*f=1):a*e=c*f:=by grind
theorem ed_assoc_x {x1 y1 x2 y2 x3 y3 D:Fin n} (h1:x1^2+y1^2=1+D*x1^2*y1^2) (h2:x2^2+y2^2=1+D*x2^2*y2^2) (h3:x3^2+y3^2=1+D*x3^2*y3^2) :
 ((x1*y2+x2*y1)*y3*(1 - D*x1*x2*y1*y2)+x3*(y1*y2-x1*x2)*(1+D*x1*x2*y1*y2))*((1+D*x2*x3*y2*y3)*(1 - D*x2*x3*y2*y3)+D*x1*(x2*y3+x3*y2)*y1*(y2*y3-x2*x3))=(x1*(y2*y3-x2*x3)*(1+D*x2*x3*y2*y3)+(x2*y3+x3*y2)*y1*(1 - D*x2*x3*y2*y3))*((1+D*x1*x2*y1*y2)*(1 - D*x1*x2*y1*y2)+D*(x1*y2+x2*y1)*x3*(y1*y2-x1*x2)*y3):=by
 grind (splits:=0)
theorem ed_assoc_y {x1 y1 x2 y2 x3 y3 D:Fin n} (h1:x1^2+y1^2=1+D*x1^2*y1^2) (h2:x2^2+y2^2=1+D*x2^2*y2^2) (h3:x3^2+y3^2=1+D*x3^2*y3^2) :
 ((y1*y2-x1*x2)*y3*(1+D*x1*x2*y1*y2) - (x1*y2+x2*y1)*x3*(1 - D*x1*x2*y1*y2))*((1+D*x2*x3*y2*y3)*(1 - D*x2*x3*y2*y3) - D*x1*(x2*y3+x3*y2)*y1*(y2*y3-x2*x3))=(y1*(y2*y3-x2*x3)*(1+D*x2*x3*y2*y3) - x1*(x2*y3+x3*y2)*(1 - D*x2*x3*y2*y3))*((1+D*x1*x2*y1*y2)*(1 - D*x1*x2*y1*y2) - D*(x1*y2+x2*y1)*x3*(y1*y2-x1*x2)*y3):=by
 grind (splits:=0)
theorem ed_up_x {a b p m i j c d q k r s x1 y1 x3 y3 D:Fin n} (hi:p*i=1) (hj:m*j=1) (hr:q*r=1) (hs:k*s=1)
 (h:(a*y3*m+x3*b*p)*(q*k+D*x1*c*y1*d)=(x1*d*q+c*y1*k)*(p*m+D*a*x3*b*y3)) :
 ((a*i)*y3+x3*(b*j))*(1+D*x1*(c*r)*y1*(d*s))=(x1*(d*s)+(c*r)*y1)*(1+D*(a*i)*x3*(b*j)*y3):=by
 have e1:(a*i)*y3+x3*(b*j)=(a*y3*m+x3*b*p)*(i*j):=by grind
 have e2:1+D*x1*(c*r)*y1*(d*s)=(q*k+D*x1*c*y1*d)*(r*s):=by grind
 have e3:x1*(d*s)+(c*r)*y1=(x1*d*q+c*y1*k)*(r*s):=by grind
 have e4:1+D*(a*i)*x3*(b*j)*y3=(p*m+D*a*x3*b*y3)*(i*j):=by grind
 rw [e1,e2,e3,e4]
 generalize a*y3*m+x3*b*p=A at *
 generalize q*k+D*x1*c*y1*d=B at *
 generalize x1*d*q+c*y1*k=C at *
 generalize p*m+D*a*x3*b*y3=E at *
 clear e1 e2 e3 e4
 grind
theorem ed_up_y {a b p m i j c d q k r s x1 y1 x3 y3 D:Fin n} (hi:p*i=1) (hj:m*j=1) (hr:q*r=1) (hs:k*s=1)
 (h:(b*y3*p - a*x3*m)*(q*k - D*x1*c*y1*d)=(y1*d*q - x1*c*k)*(p*m - D*a*x3*b*y3)) :
 ((b*j)*y3 - (a*i)*x3)*(1 - D*x1*(c*r)*y1*(d*s))=(y1*(d*s) - x1*(c*r))*(1 - D*(a*i)*x3*(b*j)*y3):=by
 have e1:(b*j)*y3 - (a*i)*x3=(b*y3*p - a*x3*m)*(i*j):=by grind
 have e2:1 - D*x1*(c*r)*y1*(d*s)=(q*k - D*x1*c*y1*d)*(r*s):=by grind
 have e3:y1*(d*s) - x1*(c*r)=(y1*d*q - x1*c*k)*(r*s):=by grind
 have e4:1 - D*(a*i)*x3*(b*j)*y3=(p*m - D*a*x3*b*y3)*(i*j):=by grind
 rw [e1,e2,e3,e4]
 generalize b*y3*p - a*x3*m=A at *
 generalize q*k - D*x1*c*y1*d=B at *
 generalize y1*d*q - x1*c*k=C at *
 generalize p*m - D*a*x3*b*y3=E at *
 clear e1 e2 e3 e4
 grind
theorem ed_sq {x1 y1 x2 y2 D t:Fin n} (h1:x1^2+y1^2=1+D*x1^2*y1^2) (h2:x2^2+y2^2=1+D*x2^2*y2^2) (ht:t=D*x1*x2*y1*y2) (h:t*t=1) :
 (x1+t*y1)^2=D*(x1*y1*(x2+y2))^2∧(x1 - t*y1)^2=D*(x1*y1*(x2-y2))^2:=by
 constructor <;> grind
end
section
variable {n:Nat} [NeZero n]
theorem g_one {D:Fin n} (e:1 - D*0*0=0):(1:Fin n)=0:=by grind
theorem g_z1 {D x y:Fin n}:1+D*x*0*y*1=1:=by grind
theorem g_z2 {D x y:Fin n}:1 - D*x*0*y*1=1:=by grind
theorem g_z3 {x y:Fin n}:(x*1+0*y)*1=x:=by grind
theorem g_z4 {x y:Fin n}:(y*1 - x*0)*1=y:=by grind
end
abbrev Fp:=Fin pF
instance:NeZero pF:=⟨by decide⟩
def fi (a:Fp):Fp:=⟨finv a.val,finv_lt _⟩
theorem fi_mul {a:Fp} (h:a≠0):a*fi a=1:=by
 refine Fin.ext ?_
 rw [Fin.val_mul]
 exact inv_mul (fun e=>h (Fin.ext e)) a.isLt
theorem fp_zero {a b:Fp} (h:a*b=0):a=0∨b=0:=by
 by_cases ha:a=0
 · exact .inl ha
 · right
   have h1:=fi_mul ha
   generalize fi a=i at *
   grind
theorem fp_ne {a b:Fp} (ha:a≠0) (hb:b≠0):a*b≠0:=fun h=>(fp_zero h).elim ha hb
theorem fp_unit {a b:Fp} (h:a*b=1):a≠0:=fun e=>by
 rw [e] at h
 have:(0:Fp)=1:=by grind
 exact absurd this (by decide)
def NS (D:Fp):Prop:=∀ z:Fp,z*z≠D
def On (D:Fp) (P:Fp × Fp):Prop:=P.1^2+P.2^2=1+D*P.1^2*P.2^2
def tt (D:Fp) (P Q:Fp × Fp):Fp:=D*P.1*Q.1*P.2*Q.2
theorem ns_one {D y:Fp} (h:NS D):1 - D*y*y≠0:=fun e=>by
 have hy:y≠0:=fun h0=>by
  rw [h0] at e
  exact absurd (g_one e) (by decide)
 have h1:=fi_mul hy
 refine h (fi y) ?_
 generalize fi y=i at *
 grind
theorem two_ne:(2:Fp)≠0:=by decide
theorem complete {D:Fp} (hD:NS D) {P Q:Fp × Fp} (hP:On D P) (hQ:On D Q):tt D P Q*tt D P Q≠1:=fun h=>by
 obtain ⟨x1,y1⟩:=P
 obtain ⟨x2,y2⟩:=Q
 unfold On at hP hQ
 unfold tt at h
 simp only at hP hQ h
 obtain ⟨t,ht⟩:∃ t,t=D*x1*x2*y1*y2:=⟨_,rfl⟩
 rw [←ht] at h
 obtain ⟨s1,s2⟩:=ed_sq hP hQ ht h
 have key:∀ a w:Fp,a^2=D*w^2→w=0:=fun a w hw=>Classical.byContradiction fun hne=>by
  have h1:=fi_mul hne
  refine hD (a*fi w) ?_
  generalize fi w=i at *
  grind
 have k1:=key _ _ s1
 have k2:=key _ _ s2
 clear s1 s2 key hP hQ
 have u1:x1*y1≠0:=fp_unit (b:=D*x2*y2*t) (by rw [ht] at h ⊢;clear k1 k2 ht;grind)
 have u2:x2*y2≠0:=fp_unit (b:=D*x1*y1*t) (by rw [ht] at h ⊢;clear k1 k2 ht;grind)
 have a1:=(fp_zero k1).resolve_left u1
 have a2:=(fp_zero k2).resolve_left u1
 have b1:2*x2=0:=by clear h ht k1 k2 u1 u2;grind
 have b2:=(fp_zero b1).resolve_left two_ne
 rw [b2] at u2
 exact u2 (by grind)
theorem com_p {D:Fp} (hD:NS D) {P Q:Fp × Fp} (hP:On D P) (hQ:On D Q):1+tt D P Q≠0:=fun h=>complete hD hP hQ (by generalize tt D P Q=t at *;grind)
theorem com_m {D:Fp} (hD:NS D) {P Q:Fp × Fp} (hP:On D P) (hQ:On D Q):1 - tt D P Q≠0:=fun h=>complete hD hP hQ (by generalize tt D P Q=t at *;grind)
def eadd (D:Fp) (P Q:Fp × Fp):Fp × Fp:=((P.1*Q.2+Q.1*P.2)*fi (1+D*P.1*Q.1*P.2*Q.2),(P.2*Q.2 - P.1*Q.1)*fi (1 - D*P.1*Q.1*P.2*Q.2))
theorem eadd_on {D:Fp} (hD:NS D) {P Q:Fp × Fp} (hP:On D P) (hQ:On D Q):On D (eadd D P Q) :=
 ed_closed hP hQ (fi_mul (com_p hD hP hQ)) (fi_mul (com_m hD hP hQ))
theorem eadd_assoc {D:Fp} (hD:NS D) {P Q R:Fp × Fp} (hP:On D P) (hQ:On D Q) (hR:On D R):eadd D (eadd D P Q) R=eadd D P (eadd D Q R):=by
 have i1:=fi_mul (com_p hD hP hQ)
 have j1:=fi_mul (com_m hD hP hQ)
 have i2:=fi_mul (com_p hD hQ hR)
 have j2:=fi_mul (com_m hD hQ hR)
 have i3:=fi_mul (com_p hD (eadd_on hD hP hQ) hR)
 have j3:=fi_mul (com_m hD (eadd_on hD hP hQ) hR)
 have i4:=fi_mul (com_p hD hP (eadd_on hD hQ hR))
 have j4:=fi_mul (com_m hD hP (eadd_on hD hQ hR))
 refine Prod.ext ?_ ?_
 · exact ed_cross (ed_up_x i1 j1 i2 j2 (ed_assoc_x hP hQ hR)) i3 i4
 · exact ed_cross (ed_up_y i1 j1 i2 j2 (ed_assoc_y hP hQ hR)) j3 j4
theorem eadd_comm (D:Fp) (P Q:Fp × Fp):eadd D P Q=eadd D Q P:=by
 unfold eadd
 have e1:P.1*Q.2+Q.1*P.2=Q.1*P.2+P.1*Q.2:=by grind
 have e2:D*P.1*Q.1*P.2*Q.2=D*Q.1*P.1*Q.2*P.2:=by grind
 have e3:P.2*Q.2 - P.1*Q.1=Q.2*P.2 - Q.1*P.1:=by grind
 rw [e1,e2,e3]
def ezero:Fp × Fp:=(0,1)
theorem ezero_on (D:Fp):On D ezero:=by unfold On ezero;simp only;grind
theorem fi_one:fi 1=1:=by
 have:=fi_mul (a:=1) (by decide)
 generalize fi 1=i at *
 grind
theorem eadd_zero (D:Fp) (P:Fp × Fp):eadd D P ezero=P:=by
 unfold eadd ezero
 simp only
 rw [g_z1,g_z2,fi_one]
 refine Prod.ext ?_ ?_
 · exact g_z3
 · exact g_z4
theorem zero_eadd (D:Fp) (P:Fp × Fp):eadd D ezero P=P:=by rw [eadd_comm,eadd_zero]
def eneg (P:Fp × Fp):Fp × Fp:=(0 - P.1,P.2)
theorem eneg_on {D:Fp} {P:Fp × Fp} (h:On D P):On D (eneg P):=by unfold On eneg at *;simp only;grind
theorem eneg_add {D:Fp} (hD:NS D) {P:Fp × Fp} (h:On D P):eadd D (eneg P) P=ezero:=by
 have i1:=fi_mul (com_p hD (eneg_on h) h)
 have j1:=fi_mul (com_m hD (eneg_on h) h)
 refine Prod.ext ?_ ?_
 · show ((0 - P.1)*P.2+P.1*P.2)*fi (1+D*(0 - P.1)*P.1*P.2*P.2)=0
   have:(0 - P.1)*P.2+P.1*P.2=0:=by grind
   rw [this];grind
 · show (P.2*P.2 - (0 - P.1)*P.1)*fi (1 - D*(0 - P.1)*P.1*P.2*P.2)=1
   have e:1 - tt D (eneg P) P=P.2*P.2 - (0 - P.1)*P.1:=by
    unfold tt eneg On at *;simp only;clear i1 j1;grind
   rw [←e]
   exact j1
def emul (D:Fp):Nat→Fp × Fp→Fp × Fp
 | 0,_=>ezero
 | n+1,P=>eadd D (emul D n P) P
theorem emul_on {D:Fp} (hD:NS D) {P:Fp × Fp} (h:On D P):∀ n,On D (emul D n P)
 | 0=>ezero_on D
 | n+1=>eadd_on hD (emul_on hD h n) h
theorem emul_add {D:Fp} (hD:NS D) {P:Fp × Fp} (h:On D P) (m:Nat):∀ n,emul D (m+n) P=eadd D (emul D m P) (emul D n P)
 | 0=>(eadd_zero D _).symm
 | n+1=>by
  show eadd D (emul D (m+n) P) P=_
  rw [emul_add hD h m n,eadd_assoc hD (emul_on hD h m) (emul_on hD h n) h]
  rfl
theorem emul_mul {D:Fp} (hD:NS D) {P:Fp × Fp} (h:On D P) (m:Nat):∀ n,emul D n (emul D m P)=emul D (m*n) P
 | 0=>rfl
 | n+1=>by
  show eadd D (emul D n (emul D m P)) (emul D m P)=_
  rw [emul_mul hD h m n,←emul_add hD h]
  rfl
def cF (a:Nat):Fp:=⟨a%pF,Nat.mod_lt _ (by decide)⟩
theorem cF_add (a b:Nat):cF (fadd a b)=cF a+cF b:=Fin.ext (by rw [Fin.val_add];show (a+b)%pF%pF=(a%pF+b%pF)%pF;rw [Nat.mod_mod,←Nat.add_mod])
theorem cF_mul (a b:Nat):cF (fmul a b)=cF a*cF b:=Fin.ext (by rw [Fin.val_mul];show (a*b)%pF%pF=(a%pF*(b%pF))%pF;rw [Nat.mod_mod,←Nat.mul_mod])
theorem cF_sub (a b:Nat) (hb:b<pF):cF (fsub a b)=cF a - cF b:=Fin.ext (by
 rw [Fin.sub_def]
 show (a+pF - b)%pF%pF=(pF - b%pF+a%pF)%pF
 rw [Nat.mod_mod,Nat.mod_eq_of_lt hb,Nat.add_mod_mod,show a+pF - b=pF - b+a by omega])
theorem cF_inv (a:Nat) (ha:a<pF):cF (finv a)=fi (cF a):=Fin.ext (by
 show finv a%pF=finv (a%pF)
 rw [Nat.mod_eq_of_lt (finv_lt a),Nat.mod_eq_of_lt ha])
theorem cF_inj {a b:Nat} (ha:a<pF) (hb:b<pF) (h:cF a=cF b):a=b:=by
 have:=congrArg Fin.val h
 change a%pF=b%pF at this
 rwa [Nat.mod_eq_of_lt ha,Nat.mod_eq_of_lt hb] at this
end Go.Proofs.YtdgkmloabificaaGreatDoor
namespace Go.Proofs.YtdgkmloabificaaGreatDoor
def iM:Nat:=19681161376707505956807079304988542015446066515923890162744021073123829784752
theorem iM_pow:2 ^ 14474011154664524427946373126085988481658748083205070504932198000989141204987%pF=iM:=by
 rw [←pm_eq pF 2 253 14474011154664524427946373126085988481658748083205070504932198000989141204987 (by decide)]
 kernel_rfl
theorem iM_sq:iM*iM%pF=pF - 1:=by kernel_rfl
def evn (x:Nat):Nat:=if x%2=1 then (0+pF - x)%pF else x
def rootX (k u v:Nat):Nat:=(u*(v*v%pF*v%pF)%pF*(v*v%pF*v%pF)%pF*v%pF) ^ k%pF*u%pF*(v*v%pF*v%pF)%pF
def rootP (k u v:Nat):Option Nat :=
 if rootX k u v*rootX k u v%pF*v%pF=u then some (evn (rootX k u v))
 else if rootX k u v*rootX k u v%pF*v%pF=(0+pF - u)%pF then some (evn (rootX k u v*iM%pF)) else none
def quoR (u v:Nat):Nat:=u*(v ^ (pF - 2)%pF)%pF
def rootY (k u v:Nat):Nat:=quoR u v ^ (k+1)%pF
def rootZ (k u v:Nat):Nat:=if rootY k u v*rootY k u v%pF=quoR u v then rootY k u v else rootY k u v*iM%pF
def rootR (k u v:Nat):Option Nat:=if rootZ k u v*rootZ k u v%pF=quoR u v∧¬(v=0∧u≠0) then some (evn (rootZ k u v)) else none
theorem mulm (a b:Nat):a%pF*b%pF=a*b%pF:=by rw [Nat.mul_mod,Nat.mod_mod,←Nat.mul_mod]
theorem mulm' (a b:Nat):a*(b%pF)%pF=a*b%pF:=by rw [Nat.mul_mod,Nat.mod_mod,←Nat.mul_mod]
theorem powm (a n:Nat):(a%pF) ^ n%pF=a ^ n%pF:=(Nat.pow_mod a n pF).symm
theorem rootX_eq {k u v:Nat} (hk:8*k+5=pF) (hv0:v≠0) (hv:v<pF):rootX k u v=rootY k u v:=by
 have hf:=prime_p.fermat1 (not_dvd hv0 hv)
 have hw:=inv_mul hv0 hv
 unfold rootX rootY quoR
 generalize v ^ (pF - 2)%pF=w at hw ⊢
 rw [show pF - 1=8*k+4 by omega,pF_one] at hf
 clear hk hv hv0
 have e1:(u*(v*v%pF*v%pF)%pF*(v*v%pF*v%pF)%pF*v%pF) ^ k%pF=(u*v ^ 7) ^ k%pF:=by
  have:u*(v*v%pF*v%pF)%pF*(v*v%pF*v%pF)%pF*v%pF=u*v ^ 7%pF:=by
   simp only [mulm,mulm']
   congr 1
   simp only [Nat.pow_succ,Nat.pow_zero,Nat.one_mul]
   ac_rfl
  rw [this,powm]
 rw [e1]
 have e2:(u*v ^ 7) ^ k%pF*u%pF*(v*v%pF*v%pF)%pF=u ^ (k+1)*v ^ (7*k+3)%pF:=by
  simp only [mulm,mulm']
  congr 1
  rw [Nat.mul_pow,←Nat.pow_mul,Nat.pow_add v (7*k) 3,Nat.pow_succ u k]
  simp only [Nat.pow_succ,Nat.pow_zero,Nat.one_mul]
  ac_rfl
 rw [e2,powm,Nat.mul_pow]
 have e3:v ^ (7*k+3)%pF=w ^ (k+1)%pF:=by
  have h1:v ^ (7*k+3)*(v*w) ^ (k+1)%pF=v ^ (7*k+3)%pF:=by
   rw [Nat.mul_mod,Nat.pow_mod (v*w),hw,Nat.one_pow,pF_one,Nat.mul_one,Nat.mod_mod]
  have h2:v ^ (7*k+3)*(v*w) ^ (k+1)=v ^ (8*k+4)*w ^ (k+1):=by
   rw [Nat.mul_pow,←Nat.mul_assoc,←Nat.pow_add]
   congr 2
   omega
  rw [←h1,h2,Nat.mul_mod,hf,Nat.one_mul,Nat.mod_mod]
 rw [Nat.mul_mod,e3,←Nat.mul_mod]
theorem sq_iff {x u v w:Nat} (hu:u<pF) (hw:v*w%pF=1):x*x%pF*v%pF=u↔x*x%pF=u*w%pF:=by
 constructor
 · intro h
   have e:x*x%pF*v%pF*w%pF=x*x%pF:=by
    rw [mulm,Nat.mul_assoc,Nat.mul_mod,hw,Nat.mul_one,Nat.mod_mod,Nat.mod_mod]
   rw [←e,h]
 · intro h
   rw [h,mulm,Nat.mul_assoc,Nat.mul_comm w v,Nat.mul_mod,hw,Nat.mul_one,Nat.mod_mod,Nat.mod_eq_of_lt hu]
theorem neg_lt (u:Nat):(0+pF - u)%pF<pF:=Nat.mod_lt _ pF_pos
theorem neg_mul (u w:Nat) (hu:u<pF):(0+pF - u)%pF*w%pF=(0+pF - u*w%pF)%pF:=by
 rw [Nat.zero_add,mulm,Nat.sub_mul]
 have h1:u*w≤pF*w:=Nat.mul_le_mul_right _ (Nat.le_of_lt hu)
 have hd:=Nat.div_add_mod (u*w) pF
 have hm:u*w%pF<pF:=Nat.mod_lt _ pF_pos
 generalize u*w=T at *
 generalize T%pF=m at *
 generalize T / pF=d at *
 by_cases h0:m=0
 · have e:pF*w - T=pF*(w - d):=by rw [Nat.mul_sub];omega
   rw [e,Nat.mul_mod_right,h0,Nat.sub_zero,Nat.mod_self]
 · have hdw:d<w:=by
    rcases Nat.lt_or_ge d w with h | h
    · exact h
    · have:=Nat.mul_le_mul_left pF h
      omega
   have e:pF*w - T=(pF - m)+pF*(w - d - 1):=by
    have h3:pF*(w - d - 1)=pF*w - pF*d - pF:=by rw [Nat.mul_sub,Nat.mul_sub,Nat.mul_one]
    have h4:pF*d+pF≤pF*w:=by
     have:=Nat.mul_le_mul_left pF (show d+1≤w by omega)
     rwa [Nat.mul_succ] at this
    omega
   rw [e,Nat.add_mul_mod_self_left]
theorem neg_neg {a b:Nat} (ha:a<pF) (hb:b<pF):(0+pF - a)%pF=b↔a=(0+pF - b)%pF:=by
 unfold pF at *
 omega
theorem times_sq {i:Nat} (hi:i*i%pF=pF - 1) (x:Nat):x*i%pF*(x*i%pF)%pF=(0+pF - x*x%pF)%pF:=by
 have e:x*i%pF*(x*i%pF)%pF=(i*i%pF)*(x*x%pF)%pF:=by
  simp only [mulm,mulm']
  congr 1
  ac_rfl
 have h1:(0+pF - 1)%pF=pF - 1:=by decide
 have h2:=neg_mul 1 (x*x%pF) (by decide)
 rw [h1,Nat.one_mul,Nat.mod_mod] at h2
 rw [e,hi,h2]
theorem root_same {k u v:Nat} (hk:8*k+5=pF) (hu:u<pF) (hv:v<pF):rootP k u v=rootR k u v:=by
 by_cases hv0:v=0
 · subst hv0
   have hX:rootX k u 0=0:=by unfold rootX;simp only [Nat.mul_zero,Nat.zero_mod]
   have hq:quoR u 0=0:=by unfold quoR;rw [zero_inv,Nat.mul_zero,Nat.zero_mod]
   have hY:rootY k u 0=0:=by unfold rootY;rw [hq,Nat.zero_pow (Nat.succ_pos k),Nat.zero_mod]
   have hZ:rootZ k u 0=0:=by unfold rootZ;rw [hY,hq,if_pos (by rw [Nat.mul_zero,Nat.zero_mod])]
   unfold rootP rootR
   rw [hX,hZ,hq]
   have e0:0*0%pF*0%pF=0:=rfl
   have e1:0*0%pF=0:=rfl
   by_cases hu0:u=0
   · subst hu0
     rw [if_pos e0,if_pos ⟨e1,fun h=>h.2 rfl⟩]
   · rw [if_neg (fun h=>hu0 (e0 ▸ h).symm),if_neg (fun h=>by rw [e0] at h;unfold pF at *;omega),if_neg (fun h=>h.2 ⟨rfl,hu0⟩)]
 · have hw:=inv_mul hv0 hv
   have hXY:=rootX_eq (u:=u) hk hv0 hv
   have hYl:rootY k u v<pF:=Nat.mod_lt _ pF_pos
   unfold rootP rootR rootZ
   rw [hXY]
   have hql:quoR u v<pF:=Nat.mod_lt _ pF_pos
   have s1:=sq_iff (x:=rootY k u v) hu hw
   have s2:=sq_iff (x:=rootY k u v) (neg_lt u) hw
   have hqe:u*(v ^ (pF - 2)%pF)%pF=quoR u v:=rfl
   rw [neg_mul u _ hu] at s2
   rw [hqe] at s1 s2
   generalize rootY k u v=y at *
   generalize quoR u v=q at *
   have ht:=times_sq iM_sq y
   have hyl:y*y%pF<pF:=Nat.mod_lt _ pF_pos
   by_cases h1:y*y%pF=q
   · rw [if_pos (s1.2 h1),if_pos h1,if_pos ⟨h1,fun h=>hv0 h.1⟩]
   · rw [if_neg (fun h=>h1 (s1.1 h)),if_neg h1]
     by_cases h2:y*y%pF=(0+pF - q)%pF
     · rw [if_pos (s2.2 h2),if_pos ⟨by rw [ht];exact (neg_neg hyl hql).2 h2,fun h=>hv0 h.1⟩]
     · rw [if_neg (fun h=>h2 (s2.1 h)),if_neg (fun h=>h2 ((neg_neg hyl hql).1 (by rw [←ht];exact h.1)))]
end Go.Proofs.YtdgkmloabificaaGreatDoor
namespace Go.Proofs.YtdgkmloabificaaGreatDoor
def kQ:Nat:=7237005577332262213973186563042994240829374041602535252466099000494570602493
theorem c0_euler:236839902240 ^ (4*kQ+2)%pF=pF - 1:=by
 have h:=pm_eq pF 236839902240 255 (4*kQ+2) (by decide)
 exact h.symm.trans (by kernel_rfl)
theorem fp_val (a b:Fp):(a*b).val=a.val*b.val%pF:=Fin.val_mul a b
theorem pow_sq_one {z h:Nat} (hh:2*h+1=pF) (hz:¬pF ∣ z):(z*z%pF) ^ h%pF=1:=by
 rw [powm,←Nat.pow_two,←Nat.pow_mul,show 2*h=pF - 1 by omega,prime_p.fermat1 hz];decide
theorem ns_c0:NS (236839902240:Fp):=fun z hz=>by
 have hv:=congrArg Fin.val hz
 rw [fp_val] at hv
 have hz0:¬pF ∣ z.val:=fun hd=>by
  have h0:z.val=0:=by
   rcases Nat.eq_zero_or_pos z.val with h | h
   · exact h
   · have:=Nat.le_of_dvd h hd;have:=z.isLt;omega
  rw [h0] at hv
  exact absurd hv (by decide)
 have h1:=pow_sq_one (h:=4*kQ+2) (by decide) hz0
 rw [hv] at h1
 have h2:(236839902240:Fp).val=236839902240:=by decide
 rw [h2,c0_euler] at h1
 exact absurd h1 (by decide)
theorem g_ns {n:Nat} [NeZero n] {z D a b c:Fin n} (hz:z*z=D) (hD:D*a=b) (hc:a*b=c):(z*a)*(z*a)=c:=by grind
def dE:Fp:=121665*fi 121666
theorem dE_ne:(121666:Fp)≠0:=by decide
theorem dE_mul:dE*121666=121665:=by
 unfold dE
 have h:=fi_mul dE_ne
 generalize fi (121666:Fp)=i at *
 have e:(121665:Fp)*i*121666=121665*(121666*i):=by rw [Fin.mul_assoc,Fin.mul_comm i]
 rw [e,h,Fin.mul_one]
theorem four_mul {n:Nat} [NeZero n] {D a b:Fin n} (h:D*a=b):D*(4*a)=4*b:=by grind
theorem dE_mul4:dE*486664=486660:=by
 have h:=four_mul dE_mul
 rwa [show (4:Fp)*121666=486664 from by decide,show (4:Fp)*121665=486660 from by decide] at h
theorem ns_dE:NS dE:=fun z hz=>ns_c0 (z*486664) (g_ns hz dE_mul4 (by decide))
def iI:Fp:=cF iM
theorem iI_sq:iI*iI=0 - 1:=by decide
structure Ext (X Y Z T:Fp) (P:Fp × Fp):Prop where
 z:Z≠0
 x:iI*X=P.1*Z
 y:Y=P.2*Z
 t:T*Z=X*Y
section
variable {n:Nat} [NeZero n]
theorem x_of {i X p Z:Fin n} (hi:i*i=0-1) (h:i*X=p*Z):X=(0-1)*i*p*Z:=by
 have e:i*(i*X)=i*(p*Z):=by rw [h]
 clear h
 grind
theorem t_of {i X Y Z T p q k:Fin n} (hk:Z*k=1) (hx:X=(0-1)*i*p*Z) (hy:Y=q*Z) (ht:T*Z=X*Y):T=(0-1)*i*p*q*Z:=by
 have e:T*Z*k=X*Y*k:=by rw [ht]
 have e1:T*Z*k=T:=by clear e ht hx hy;grind
 rw [e1,hx,hy] at e
 rw [e];clear e e1 ht hx hy;grind
theorem e_x {i f g h A p q k:Fin n} (hf:i*f=k*A) (hh:h=k*p) (hq:p*q=1):i*(f*g)=(A*q)*(g*h):=by
 have e1:i*(f*g)=(i*f)*g:=by clear hf hh hq;grind
 have e2:(A*q)*(g*h)=A*k*g*(p*q):=by rw [hh];clear e1 hf hh hq;grind
 rw [e1,e2,hf,hq];clear e1 e2 hf hh hq;grind
theorem e_y {g h s B p q k:Fin n} (hs:s=k*B) (hg:g=k*p) (hq:p*q=1):h*s=(B*q)*(g*h):=by
 have e2:(B*q)*(g*h)=B*k*h*(p*q):=by rw [hg];clear hg hq hs;grind
 rw [e2,hs,hq];clear e2 hs hg hq;grind
theorem e_t {f g h s:Fin n}:f*s*(g*h)=(f*g)*(h*s):=by grind
end
theorem ext_of {D:Fp} (hD:NS D) {P Q:Fp × Fp} (hP:On D P) (hQ:On D Q) {f g h s k:Fp} (hk:k≠0) (hf:iI*f=k*(P.1*Q.2+Q.1*P.2)) (hg:g=k*(1 - D*P.1*Q.1*P.2*Q.2)) (hh:h=k*(1+D*P.1*Q.1*P.2*Q.2)) (hs:s=k*(P.2*Q.2 - P.1*Q.1)) :
 Ext (f*g) (h*s) (g*h) (f*s) (eadd D P Q) :=
 ⟨fp_ne (by rw [hg];exact fp_ne hk (com_m hD hP hQ)) (by rw [hh];exact fp_ne hk (com_p hD hP hQ)),e_x hf hh (fi_mul (com_p hD hP hQ)),e_y hs hg (fi_mul (com_m hD hP hQ)),e_t⟩
section
variable {n:Nat} [NeZero n]
theorem s_f {i X1 Y1 Z1 X2 Y2 Z2 p1 p2 q1 q2:Fin n} (hx1:i*X1=p1*Z1) (hy1:Y1=p2*Z1) (hx2:i*X2=q1*Z2) (hy2:Y2=q2*Z2):i*(X1*Y2+Y1*X2)=Z1*Z2*(p1*q2+q1*p2):=by
 have e:i*(X1*Y2+Y1*X2)=(i*X1)*Y2+(i*X2)*Y1:=by clear hx1 hy1 hx2 hy2;grind
 rw [e,hx1,hx2,hy1,hy2];clear e hx1 hy1 hx2 hy2;grind
theorem s_t {i T1 T2 Z1 Z2 p1 p2 q1 q2 d D:Fin n} (hi:i*i=0-1) (hd:d=0 - D) (h1:T1=(0-1)*i*p1*p2*Z1) (h2:T2=(0-1)*i*q1*q2*Z2):T1*T2*d=Z1*Z2*(D*p1*q1*p2*q2):=by
 have e:T1*T2*d=(i*i)*(p1*p2*q1*q2*Z1*Z2*d):=by rw [h1,h2];clear h1 h2 hd hi;grind
 rw [e,hi,hd];clear e h1 h2 hi hd;grind
theorem s_s {i X1 Y1 Z1 X2 Y2 Z2 p1 p2 q1 q2:Fin n} (hi:i*i=0-1) (hx1:X1=(0-1)*i*p1*Z1) (hy1:Y1=p2*Z1) (hx2:X2=(0-1)*i*q1*Z2) (hy2:Y2=q2*Z2):Y1*Y2+X1*X2=Z1*Z2*(p2*q2 - p1*q1):=by
 have e:X1*X2=(i*i)*(p1*q1*Z1*Z2):=by rw [hx1,hx2];clear hx1 hx2 hy1 hy2 hi;grind
 rw [e,hi,hy1,hy2];clear e hx1 hx2 hy1 hy2 hi;grind
theorem s_fac {a b:Fin n}:a - a*b=a*(1-b)∧a+a*b=a*(1+b):=by constructor <;> grind
theorem s_f2 {X1 Y1 X2 Y2:Fin n}:(X1+Y1)*(X2+Y2) - X1*X2 - Y1*Y2=X1*Y2+Y1*X2:=by grind
theorem s_dbl1 {i X Y Z p q:Fin n} (hi:i*i=0-1) (hx:X=(0-1)*i*p*Z) (hy:Y=q*Z):Y*Y - X*X=Z*Z*(p*p+q*q):=by
 have e:X*X=(i*i)*(p*p*Z*Z):=by rw [hx];clear hx hy hi;grind
 rw [e,hi,hy];clear e hx hy hi;grind
theorem s_on {D p q:Fin n} (h:p^2+q^2=1+D*p^2*q^2):p*p+q*q=1+D*p*p*q*q:=by grind
end
theorem Ext.k {X Y Z T:Fp} {P:Fp × Fp} (h:Ext X Y Z T P):X=(0-1)*iI*P.1*Z∧T=(0-1)*iI*P.1*P.2*Z :=
 ⟨x_of iI_sq h.x,t_of (fi_mul h.z) (x_of iI_sq h.x) h.y h.t⟩
theorem ext_add {D d:Fp} (hD:NS D) (hd:d=0 - D) {P Q:Fp × Fp} (hP:On D P) (hQ:On D Q) {X1 Y1 Z1 T1 X2 Y2 Z2 T2:Fp} (h1:Ext X1 Y1 Z1 T1 P) (h2:Ext X2 Y2 Z2 T2 Q) :
 Ext (((X1+Y1)*(X2+Y2) - X1*X2 - Y1*Y2)*(Z1*Z2 - T1*T2*d)) ((Z1*Z2+T1*T2*d)*(Y1*Y2+X1*X2)) ((Z1*Z2 - T1*T2*d)*(Z1*Z2+T1*T2*d)) (((X1+Y1)*(X2+Y2) - X1*X2 - Y1*Y2)*(Y1*Y2+X1*X2)) (eadd D P Q):=by
 have k1:=h1.k
 have k2:=h2.k
 have hT:=s_t iI_sq hd k1.2 k2.2
 refine ext_of hD hP hQ (fp_ne h1.z h2.z) ?_ ?_ ?_ ?_
 · rw [s_f2];exact s_f h1.x h1.y h2.x h2.y
 · rw [hT];exact s_fac.1
 · rw [hT];exact s_fac.2
 · exact s_s iI_sq k1.1 h1.y k2.1 h2.y
theorem one_ne:(1:Fp)≠0:=by decide
theorem ext_zero:Ext 0 1 1 0 ezero:=⟨one_ne,by unfold ezero;decide,by unfold ezero;decide,by decide⟩
def xOf (P:Fp × Fp):Fp:=(0-1)*iI*P.1
section
variable {n:Nat} [NeZero n]
theorem q_x {X a Z k:Fin n} (hk:Z*k=1) (h:X=a*Z):X*k=a:=by
 have e:X*k=a*(Z*k):=by rw [h];clear h hk;grind
 rw [e,hk];clear e h hk;grind
theorem same_of {i a b:Fin n} (hi:i*i=0-1) (h:(0-1)*i*a=(0-1)*i*b):a=b:=by
 have e:i*((0-1)*i*a)=i*((0-1)*i*b):=by rw [h]
 clear h
 have e1:∀ c:Fin n,i*((0-1)*i*c)=(0-1)*((i*i)*c):=fun c=>by clear e hi;grind
 rw [e1,e1,hi] at e
 clear e1
 grind
theorem cross {X1 Z1 X2 Z2 a b:Fin n} (h1:X1=a*Z1) (h2:X2=b*Z2):X1*Z2=a*(Z1*Z2)∧X2*Z1=b*(Z1*Z2):=by rw [h1,h2];constructor <;> grind
end
theorem Ext.affine {X Y Z T:Fp} {P:Fp × Fp} (h:Ext X Y Z T P):X*fi Z=xOf P∧Y*fi Z=P.2 :=
 ⟨q_x (fi_mul h.z) h.k.1,q_x (fi_mul h.z) h.y⟩
theorem fp_cancel {a b c:Fp} (hc:c≠0) (h:a*c=b*c):a=b:=by
 have h1:=fi_mul hc
 have e:∀ x:Fp,x*c*fi c=x:=fun x=>by rw [Fin.mul_assoc,h1,Fin.mul_one]
 rw [←e a,h,e b]
theorem ext_same {X1 Y1 Z1 T1 X2 Y2 Z2 T2:Fp} {P Q:Fp × Fp} (h1:Ext X1 Y1 Z1 T1 P) (h2:Ext X2 Y2 Z2 T2 Q):(X1*Z2=X2*Z1∧Y1*Z2=Y2*Z1)↔P=Q:=by
 have hz:=fp_ne h1.z h2.z
 have cx:=cross (a:=xOf P) (b:=xOf Q) h1.k.1 h2.k.1
 have cy:=cross h1.y h2.y
 constructor
 · intro ⟨hx,hy⟩
   rw [cx.1,cx.2] at hx
   rw [cy.1,cy.2] at hy
   exact Prod.ext (same_of iI_sq (fp_cancel hz hx)) (fp_cancel hz hy)
 · intro e
   rw [cx.1,cx.2,cy.1,cy.2,e]
   exact ⟨rfl,rfl⟩
end Go.Proofs.YtdgkmloabificaaGreatDoor
namespace Go.Proofs.YtdgkmloabificaaGreatDoor
section
variable {n:Nat} [NeZero n]
theorem on_sq {D p q y:Fin n} (h1:p^2+y^2=1+D*p^2*y^2) (h2:q^2+y^2=1+D*q^2*y^2):((p-q)*(p+q))*(1 - D*y*y)=0:=by grind
theorem sub_zero' {a b:Fin n} (h:a - b=0):a=b:=by grind
theorem add_zero' {a b:Fin n} (h:a+b=0):a=0 - b:=by grind
theorem neg_x {i a b:Fin n} (h:a=0 - b):(0-1)*i*a+(0-1)*i*b=0:=by rw [h];clear h;grind
theorem on_back {i x y D d:Fin n} (hi:i*i=0-1) (hd:d=0 - D) (h:x*x*(d*(y*y)+1)=y*y - 1):(i*x)^2+y^2=1+D*(i*x)^2*y^2:=by
 have e:(i*x)^2=(i*i)*(x*x):=by clear h hi hd;grind
 rw [e,hi];rw [hd] at h;clear e hi hd;grind
theorem x_back {i x:Fin n} (hi:i*i=0-1):(0-1)*i*(i*x)=x:=by
 have e:(0-1)*i*(i*x)=(0-1)*((i*i)*x):=by clear hi;grind
 rw [e,hi];clear e hi;grind
end
theorem fp_add_zero {a b:Fp} (h:a+b=0) (hp:a.val%2=b.val%2):a=0:=by
 have hv:=congrArg Fin.val h
 rw [Fin.val_add] at hv
 have ha:=a.isLt
 have hb:=b.isLt
 have hodd:pF%2=1:=by decide
 refine Fin.ext ?_
 show a.val=0
 change (a.val+b.val)%pF=0 at hv
 generalize a.val=x at *
 generalize b.val=y at *
 clear h a b
 generalize pF=p at *
 rcases Nat.lt_or_ge (x+y) p with h1 | h1
 · rw [Nat.mod_eq_of_lt h1] at hv;omega
 · have:(x+y - p)%p=0:=by rw [←Nat.mod_eq_sub_mod h1];exact hv
   rw [Nat.mod_eq_of_lt (by omega)] at this
   omega
theorem enc_inj {D:Fp} (hD:NS D) {P Q:Fp × Fp} (hP:On D P) (hQ:On D Q) (hy:P.2=Q.2) (hx:(xOf P).val%2=(xOf Q).val%2):P=Q:=by
 obtain ⟨p,y⟩:=P
 obtain ⟨q,y'⟩:=Q
 simp only at hy
 subst hy
 unfold On at hP hQ
 simp only at hP hQ
 unfold xOf at hx
 simp only at hx
 have h:=(fp_zero (on_sq hP hQ)).resolve_right (ns_one hD)
 rcases fp_zero h with h1 | h1
 · rw [sub_zero' h1]
 · have e:=add_zero' h1
   have h0:=fp_add_zero (neg_x (i:=iI) e) hx
   have hp:p=0:=same_of iI_sq (h0.trans (by rw [Fin.mul_zero]))
   have hq:q=0:=by
    have e2:(0-1)*iI*q=0:=by
     have:=neg_x (i:=iI) e
     rw [h0,Fin.zero_add] at this
     exact this
    exact same_of iI_sq (e2.trans (by rw [Fin.mul_zero]))
   rw [hp,hq]
structure N4 where
 X:Nat
 Y:Nat
 Z:Nat
 T:Nat
structure N4.Ok (p:N4):Prop where
 X:p.X<pF
 Y:p.Y<pF
 Z:p.Z<pF
 T:p.T<pF
def Ext4 (p:N4) (P:Fp × Fp):Prop:=Ext (cF p.X) (cF p.Y) (cF p.Z) (cF p.T) P
def dN:Nat:=37095705934669439343138083508754565189542113879843219016388785533085940283555
theorem dN_lt:dN<pF:=by decide
theorem dN_eq:cF dN=0 - dE:=by
 have h:cF dN*121666=0 - 121665:=by decide
 refine fp_cancel dE_ne ?_
 rw [h]
 have e:(0 - dE)*121666=0 - dE*121666:=by generalize dE=D;generalize (121666:Fp)=k;grind
 rw [e,dE_mul]
def subXY (p q:N4):Nat:=fsub (fsub (fmul (fadd p.X p.Y) (fadd q.X q.Y)) (fmul p.X q.X)) (fmul p.Y q.Y)
def addN (d:Nat) (p q:N4):N4 :=
 ⟨fmul (subXY p q) (fsub (fmul p.Z q.Z) (fmul (fmul p.T q.T) d)),fmul (fadd (fmul p.Z q.Z) (fmul (fmul p.T q.T) d)) (fadd (fmul p.Y q.Y) (fmul p.X q.X)),
  fmul (fsub (fmul p.Z q.Z) (fmul (fmul p.T q.T) d)) (fadd (fmul p.Z q.Z) (fmul (fmul p.T q.T) d)),fmul (subXY p q) (fadd (fmul p.Y q.Y) (fmul p.X q.X))⟩
theorem addN_ok (d:Nat) (p q:N4):(addN d p q).Ok:=⟨fmul_lt _ _,fmul_lt _ _,fmul_lt _ _,fmul_lt _ _⟩
theorem addN_ext {p q:N4} {P Q:Fp × Fp} (hP:On dE P) (hQ:On dE Q) (h1:Ext4 p P) (h2:Ext4 q Q):Ext4 (addN dN p q) (eadd dE P Q):=by
 unfold Ext4 addN subXY
 simp only [cF_mul,cF_add,cF_sub _ _ (fmul_lt _ _)]
 exact ext_add ns_dE dN_eq hP hQ h1 h2
theorem cF_zero:cF 0=0:=by decide
theorem cF_one:cF 1=1:=by decide
def zeroN:N4:=⟨0,1,1,0⟩
theorem zeroN_ok:zeroN.Ok:=⟨by decide,by decide,by decide,by decide⟩
theorem zeroN_ext:Ext4 zeroN ezero:=by
 unfold Ext4 zeroN
 simp only [cF_zero,cF_one]
 exact ext_zero
theorem val_cF {a:Nat} (h:a<pF):(cF a).val=a:=Nat.mod_eq_of_lt h
theorem enc_xy {p:N4} {P:Fp × Fp} (hp:p.Ok) (h:Ext4 p P):fmul p.X (finv p.Z)=(xOf P).val∧fmul p.Y (finv p.Z)=P.2.val:=by
 have a:=Ext.affine h
 rw [←cF_inv _ hp.Z,←cF_mul,←cF_mul] at a
 exact ⟨by rw [←a.1,val_cF (fmul_lt _ _)],by rw [←a.2,val_cF (fmul_lt _ _)]⟩
def encB (P:Fp × Fp) (j:Nat):Nat:=if j=31 then byt P.2.val 31+128*((xOf P).val%2) else byt P.2.val j
def ofXY (x y:Nat):N4:=⟨x,y,1,fmul x y⟩
theorem ofXY_ok {x y:Nat} (hx:x<pF) (hy:y<pF):(ofXY x y).Ok:=⟨hx,hy,(show 1<pF by decide),fmul_lt _ _⟩
def ptXY (x y:Nat):Fp × Fp:=(iI*cF x,cF y)
theorem ofXY_ext (x y:Nat):Ext4 (ofXY x y) (ptXY x y):=by
 unfold Ext4 ofXY
 simp only [cF_one,cF_mul]
 exact ⟨one_ne,by show iI*cF x=iI*cF x*1;rw [Fin.mul_one],by show cF y=cF y*1;rw [Fin.mul_one],by rw [Fin.mul_one]⟩
theorem ptXY_on {x y:Nat} (h:cF x*cF x*(cF dN*(cF y*cF y)+1)=cF y*cF y - 1):On dE (ptXY x y):=on_back iI_sq dN_eq h
theorem ptXY_x {x:Nat} (y:Nat) (hx:x<pF):(xOf (ptXY x y)).val=x:=by
 unfold xOf ptXY
 simp only
 rw [x_back iI_sq,val_cF hx]
theorem ptXY_y (x:Nat) {y:Nat} (hy:y<pF):(ptXY x y).2.val=y:=val_cF hy
def nB (ks:Nat→Nat):Nat→Nat
 | 0=>0
 | j+1=>2*nB ks j+ks ((255 - j) / 8) / 2 ^ ((255 - j)%8)%2
theorem ofB_bit (ks:Nat→Nat) (hk:∀ j,ks j<256):∀ n i,i<8*n→ofB ks n / 2 ^ i%2=ks (i / 8) / 2 ^ (i%8)%2
 | 0,i,h=>by omega
 | n+1,i,h=>by
  have ih:=ofB_bit ks hk n
  have hl:=ofB_lt ks hk n
  unfold ofB
  have e256:256 ^ n=2 ^ (8*n):=by rw [Nat.pow_mul]
  by_cases hi:i<8*n
  · rw [←ih i hi,e256]
    obtain ⟨d,hd⟩:∃ d,8*n=i+(d+1):=⟨8*n - i - 1,by omega⟩
    rw [hd,Nat.pow_add,Nat.mul_assoc,Nat.add_mul_div_left _ _ (Nat.two_pow_pos i),Nat.pow_succ,Nat.mul_comm (2 ^ d) 2,Nat.mul_assoc,Nat.add_mul_mod_self_left]
  · obtain ⟨d,rfl⟩:∃ d,i=8*n+d:=⟨i - 8*n,by omega⟩
    have hd:d<8:=by omega
    rw [show (8*n+d) / 8=n by omega,show (8*n+d)%8=d by omega,Nat.pow_add,←Nat.div_div_eq_div_mul,←e256,Nat.add_mul_div_left _ _ (Nat.pow_pos (by decide)),Nat.div_eq_of_lt hl,Nat.zero_add]
theorem nB_eq (ks:Nat→Nat) (hk:∀ j,ks j<256):∀ j,j≤256→nB ks j=ofB ks 32 / 2 ^ (256 - j)
 | 0,_=>by
  have:=ofB_lt ks hk 32
  rw [nB,Nat.div_eq_of_lt]
  exact Nat.lt_of_lt_of_le this (by decide)
 | j+1,h=>by
  have ih:=nB_eq ks hk j (by omega)
  unfold nB
  rw [ih,←ofB_bit ks hk 32 (255 - j) (by omega),show 256 - j=(255 - j)+1 by omega,show 256 - (j+1)=255 - j by omega,Nat.pow_succ,←Nat.div_div_eq_div_mul]
  omega
theorem nB_all (ks:Nat→Nat) (hk:∀ j,ks j<256):nB ks 256=ofB ks 32:=by
 rw [nB_eq ks hk 256 (Nat.le_refl _),Nat.sub_self,Nat.pow_zero,Nat.div_one]
def mulN (d:Nat) (p:N4) (ks:Nat→Nat):Nat→N4
 | 0=>zeroN
 | j+1=>if ks ((255 - j) / 8) / 2 ^ ((255 - j)%8)%2=1 then addN d (addN d (mulN d p ks j) (mulN d p ks j)) p else addN d (mulN d p ks j) (mulN d p ks j)
theorem mulN_ok (d:Nat) (p:N4) (ks:Nat→Nat):∀ j,(mulN d p ks j).Ok
 | 0=>zeroN_ok
 | j+1=>by
  unfold mulN
  split <;> exact addN_ok _ _ _
theorem mulN_ext {p:N4} {P:Fp × Fp} (hP:On dE P) (h:Ext4 p P) (ks:Nat→Nat):∀ j,Ext4 (mulN dN p ks j) (emul dE (nB ks j) P)
 | 0=>zeroN_ext
 | j+1=>by
  have ih:=mulN_ext hP h ks j
  have on:=emul_on ns_dE hP (nB ks j)
  have e2:eadd dE (emul dE (nB ks j) P) (emul dE (nB ks j) P)=emul dE (2*nB ks j) P:=by rw [←emul_add ns_dE hP,Nat.two_mul]
  have d2:=addN_ext on on ih ih
  rw [e2] at d2
  unfold mulN nB
  by_cases hb:ks ((255 - j) / 8) / 2 ^ ((255 - j)%8)%2=1
  · rw [if_pos hb,hb]
    exact addN_ext (emul_on ns_dE hP _) hP d2 h
  · rw [if_neg hb,show ks ((255 - j) / 8) / 2 ^ ((255 - j)%8)%2=0 by omega]
    exact d2
end Go.Proofs.YtdgkmloabificaaGreatDoor
namespace Go.Proofs.YtdgkmloabificaaGreatDoor
open Go.RowKit
theorem rww_plus {L M:Nat→Int} {x y:Nat} (hL:Rw L x) (hM:Rw M y):Rw (plusL L M) (fadd x y):=by
 have hb:∀ j,j<16→-131450≤L j+M j∧L j+M j≤131450:=fun j hj=>by
  have h1:=hL.dig.all (by decide) j hj
  have h2:=hM.dig.all (by decide) j hj
  omega
 refine ⟨(carry_dig _ 131450 (by decide) hb).mono (by decide),?_⟩
 have e:valR (fun j=>L j+M j) 16=valR L 16+valR M 16:=by
  have:=valR_lin L M 1 16
  simp only [Int.one_mul] at this
  exact this
 unfold plusL fadd
 rw [valR_carry,e,show ∀ a b P:Int,a - b*2*P=a+P*(-(b*2)) from fun a b P=>by rw [Int.mul_neg,Int.mul_comm P];omega,Int.add_mul_emod_self_left,Int.add_emod,hL.val,hM.val,←Int.natCast_add,nat_mod,←Nat.add_mod,Nat.mod_mod]
theorem rww_minus {L M:Nat→Int} {x y:Nat} (hL:Rw L x) (hM:Rw M y) (hy:y<pF):Rw (minusL L M) (fsub x y):=by
 have hb:∀ j,j<16→-131450≤L j - M j∧L j - M j≤131450:=fun j hj=>by
  have h1:=hL.dig.all (by decide) j hj
  have h2:=hM.dig.all (by decide) j hj
  omega
 refine ⟨(carry_dig _ 131450 (by decide) hb).mono (by decide),?_⟩
 have e:valR (fun j=>L j - M j) 16=valR L 16 - valR M 16:=by
  have:=valR_lin L M (-1) 16
  simp only [Int.neg_mul,Int.one_mul,←Int.sub_eq_add_neg] at this
  exact this
 unfold minusL fsub
 rw [valR_carry,e,show ∀ a b P:Int,a - b*2*P=a+P*(-(b*2)) from fun a b P=>by rw [Int.mul_neg,Int.mul_comm P];omega,Int.add_mul_emod_self_left,Int.sub_emod,hL.val,hM.val,←nat_mod,←nat_mod,←Int.sub_emod,Nat.mod_mod,←nat_mod,show ((x+pF - y:Nat):Int)=((x:Int) - (y:Int))+(pF:Int)*1 by omega,Int.add_mul_emod_self_left]
theorem rw_bytes (A:Nat→Int) (a:Nat) (hA:Rw A a) (ha:a<pF) (w:World):Calls Tryz.prog 69 #[.agg (i16 A).toArray] w fun e w'=>∃ v,e = .returned v∧Own w.heap.size w' v 32 (byt a)∧Below w.heap.size w w':=by
 have h:=rbytes A (hA.dig.mono (by decide)) a hA.val w
 rw [Nat.mod_eq_of_lt ha] at h
 exact h
def q64 (X Y Z T:Nat→Int):List Value:=i16 X ++ (i16 Y ++ (i16 Z ++ i16 T))
def qV (X Y Z T:Nat→Int):Value := .agg (q64 X Y Z T).toArray
theorem q64_len (X Y Z T:Nat→Int):(q64 X Y Z T).length=64:=by
 unfold q64
 rw [List.length_append,List.length_append,List.length_append,i16_len,i16_len,i16_len,i16_len]
def zQ:Array Value:=Array.replicate 64 (.int .i64 0)
theorem zeroQ (w:World):Sem.run Tryz.prog (zeroValue 68) w = .ok (.agg zQ) w:=by kernel_rfl
theorem infoQs:(Tryz.prog.info? 68).map (·.size)=some 64:=by kernel_rfl
theorem zQ_eq:zQ=(q64 (fun _=>0) (fun _=>0) (fun _=>0) (fun _=>0)).toArray:=by kernel_rfl
theorem freshQ (w:World):∃ w' g,w.alloc (.cells zQ 68)=w'∧w.heap.size=g∧Below w.heap.size w w'∧RW w' g 0 (q64 (fun _=>0) (fun _=>0) (fun _=>0) (fun _=>0)):=by
 refine ⟨_,_,rfl,rfl,(Below.refl _ _).alloc (Nat.le_refl _) _,?_⟩
 rw [zQ_eq];exact RW.fresh w _ _
theorem freshQ' (w:World):RW (w.alloc (.cells zQ 68)) w.heap.size 0 (q64 (fun _=>0) (fun _=>0) (fun _=>0) (fun _=>0)):=by rw [zQ_eq];exact RW.fresh w _ _
theorem infoQ (X Y Z T:Nat→Int):(Tryz.prog.info? 68).map (·.size)=some (q64 X Y Z T).length:=by rw [q64_len];exact infoQs
theorem infoQA (X Y Z T:Nat→Int):(Tryz.prog.info? 68).map (·.size)=some (q64 X Y Z T).toArray.size:=by rw [List.size_toArray,q64_len];exact infoQs
theorem oneQ (X Y Z T:Nat→Int):(q64 X Y Z T).toArray.all (·.oneCell')=true:=all_oneCell_toArray (fun v hv=>by
 unfold q64 at hv
 rcases List.mem_append.1 hv with h | h
 · exact intsI_one 16 X v h
 · rcases List.mem_append.1 h with h | h
   · exact intsI_one 16 Y v h
   · rcases List.mem_append.1 h with h | h
     · exact intsI_one 16 Z v h
     · exact intsI_one 16 T v h)
theorem there64 {w:World} {g:Nat} {X Y Z T X' Y' Z' T':Nat→Int} (r:RW w g 0 (q64 X Y Z T)):w.there g 0 (q64 X' Y' Z' T').toArray.size:=by
 have h:=r.there
 rw [q64_len] at h
 have e:(q64 X' Y' Z' T').toArray.size=64:=by rw [List.size_toArray];exact q64_len _ _ _ _
 rw [e];exact h
theorem there16 {w:World} {g:Nat} {X X':Nat→Int} (r:RW w g 0 (i16 X)):w.there g 0 (i16 X').toArray.size:=by
 have h:=r.there
 rw [i16_len] at h
 have e:(i16 X').toArray.size=16:=by rw [List.size_toArray];exact i16_len _
 rw [e];exact h
theorem q64_same (X Y Z T X' Y' Z' T':Nat→Int):(q64 X Y Z T).length=(q64 X' Y' Z' T').length:=by rw [q64_len,q64_len]
theorem parts {w:World} {g:Nat} {X Y Z T:Nat→Int} (r:RW w g 0 (q64 X Y Z T)):RW w g 0 (i16 X)∧RW w g 16 (i16 Y)∧RW w g 32 (i16 Z)∧RW w g 48 (i16 T):=by
 have h1:=RW.right r
 rw [i16_len] at h1
 have h2:=RW.right h1
 rw [i16_len] at h2
 have h3:=RW.right h2
 rw [i16_len] at h3
 exact ⟨RW.left r,RW.left h1,RW.left h2,h3⟩
theorem builtQ (X Y Z T:Nat→Int):Tryz.prog.built 68 [(0,rV X),(1,rV Y),(2,rV Z),(3,rV T)]=some (q64 X Y Z T).toArray:=by kernel_rfl
theorem yields_build4 {P:Program} {ops:Array Oper} {S:World→Prop} {o:Oper} {a:Act} (hw:Region.wanted o (yielded ops a.tmps)=true) (t:TypeId) (x y z u:Operand) (ho:o.op = .build t #[(0,x),(1,y),(2,z),(3,u)]) (a0 a1 a2 a3:Value) (h0:a.eval x=a0) (h1:a.eval y=a1) (h2:a.eval z=a2) (h3:a.eval u=a3) (cells:Array Value)
 (hf:P.built t [(0,a0),(1,a1),(2,a2),(3,a3)]=some cells):YieldsIf P ops S o (.agg cells) a:=by
 refine .inl ⟨hw,fun w _ => ?_⟩
 unfold execOp
 simp only [ho,List.map_toArray,List.map_cons,List.map_nil,h0,h1,h2,h3]
 rw [Sem.run_bind,run_build w t _ cells hf]
 rfl
structure P4 where
 X:Nat→Int
 Y:Nat→Int
 Z:Nat→Int
 T:Nat→Int
structure P4.Rep (r:P4) (p:N4):Prop where
 X:Rw r.X p.X
 Y:Rw r.Y p.Y
 Z:Rw r.Z p.Z
 T:Rw r.T p.T
def P4.V (r:P4):Value:=qV r.X r.Y r.Z r.T
end Go.Proofs.YtdgkmloabificaaGreatDoor
