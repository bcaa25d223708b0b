/- What the proof stands on: PNum, Api, Prime, PrimeUse, ZD, RootMath. -/
import Derived.Test.YtcgkajlehdgpoaaGreatDoorLRow
import Derived.Test.YtcgkajlehdgpoaaGreatDoorLimbsM
import Derived.Test.YtcgkajlehdgpoaaGreatDoorZAb2M
import Derived.Laws.StructEq
namespace Go.Proofs.YtcgkajlehdgpoaaGreatDoor
open Go.RowKit
theorem fresh4' (w:World):RW (w.alloc (.cells #[.int .u64 0,.int .u64 0,.int .u64 0,.int .u64 0] 88)) w.heap.size 0 (c4 0):=by
 rw [c4_zero];exact RW.fresh w _ _
theorem num_store {o:Oper} {a:Act} {cur V:World} {K:Act→World→Prop} {Q:Exit→Act→World→Prop} (x y:Operand) (ho:o.op = .store 88 x y) (g m n:Nat) (hx:a.eval x = .pointer (some ⟨g,0,none⟩)) (hy:a.eval y=numV n) (r:RW cur g 0 (c4 m)) (S:Below V.heap.size V cur) (G:V.heap.size≤g)
 (h:∀ W1,RW W1 g 0 (c4 n)→Below V.heap.size V W1→(∀ b p cs,b≠g→RW cur b p cs→RW W1 b p cs)→K (a.put o.dst undef) W1):o.wp Tryz.prog a cur K Q :=
 wp_store_mid 88 x y ho g 0 (c4 n).toArray hx hy r.there info4 (one4 n) (h _ (r.stored (c4 n) rfl) (below_setCells G _ _ _ S) (fun _ _ _ hne hr=>hr.far g 0 (c4 n) (.inl hne)))
section
variable {md:Region.Mode} {ops:Array Oper} {Q:Exit→Act→World→Prop} {fuel:Nat} {listed:Array Bool} {a:Act} {w V:World}
theorem arN {i:Nat} {rs:List Nat} (oi:Oper) (hS:Below V.heap.size V w) (h:∀ w1 g,V.heap.size≤g→w.heap.size≤g→Below w.heap.size w w1→RW w1 g 0 (c4 0)→Below V.heap.size V w1→wpAnyH Tryz.prog md ops Q (fun u=>Below V.heap.size V u) fuel (listed.setIfInBounds i true) (a.put oi.dst (pA g 0)) w1) (hs:AllReadyH Tryz.prog md ops Q (fun u=>Below V.heap.size V u) fuel listed a w rs)
 (hrun:(execOp a.eval oi).run Tryz.prog w = .ok (.value (pA w.heap.size 0)) (w.alloc (.cells #[.int .u64 0,.int .u64 0,.int .u64 0,.int .u64 0] 88)):=by kernel_rfl) (hi:ops[i]? = some oi:=by rfl) (hw:Region.wanted oi (yielded ops a.tmps)=true:=by rfl):AllReadyH Tryz.prog md ops Q (fun u=>Below V.heap.size V u) fuel listed a w (i :: rs) :=
 have hb:Below w.heap.size w (w.alloc (.cells #[.int .u64 0,.int .u64 0,.int .u64 0,.int .u64 0] 88)):=bR.alloc (Nat.le_refl _) _
 arA oi ⟨below_next hS hb,h _ _ hS.size (Nat.le_refl _) hb (fresh4' w) (below_next hS hb)⟩ hs hrun hi hw
theorem arS {i:Nat} {rs:List Nat} (oi:Oper) (x y:Nat) {g m:Nat} (n:Nat) (r:RW w g 0 (c4 m)) (hS:Below V.heap.size V w) (G:V.heap.size≤g) (h:∀ w1,RW w1 g 0 (c4 n)→Below V.heap.size V w1→(∀ b p cs,b≠g→RW w b p cs→RW w1 b p cs)→wpAnyH Tryz.prog md ops Q (fun u=>Below V.heap.size V u) fuel (listed.setIfInBounds i true) (a.put oi.dst undef) w1) (hs:AllReadyH Tryz.prog md ops Q (fun u=>Below V.heap.size V u) fuel listed a w rs)
 (ho:oi.op = .store 88 (.tmp x) (.tmp y):=by rfl) (hx:a.eval (.tmp x) = .pointer (some ⟨g,0,none⟩):=by rfl) (hy:a.eval (.tmp y)=numV n:=by rfl) (hi:ops[i]? = some oi:=by rfl) (hw:Region.wanted oi (yielded ops a.tmps)=true:=by rfl):AllReadyH Tryz.prog md ops Q (fun u=>Below V.heap.size V u) fuel listed a w (i :: rs):=by
 refine AllReadyH.cons hi (fun K hK => ?_) hs
 rw [if_pos hw]
 exact num_store _ _ ho g m n hx hy r hS G (fun w1 r1 hS1 far=>hK.out _ _ hS1 (fun _=>h w1 r1 hS1 far))
theorem ldN {o:Oper} {g off n:Nat} (h:RW V g off (c4 n)) (k:Nat) (hw:Region.wanted o (yielded ops a.tmps)=true:=by rfl) (ho:o.op = .load 88 (.tmp k):=by rfl) (hx:a.eval (.tmp k) = .pointer (some ⟨g,off,none⟩):=by rfl):YieldsIf Tryz.prog ops (fun w'=>Below V.heap.size V w') o (numV n) a :=
 ldH h 88 k Tryz.underlying88 info4 rfl hw ho hx
end
theorem fresh4t (w:World) (n:Nat):(w.alloc (.cells #[.int .u64 0,.int .u64 0,.int .u64 0,.int .u64 0] 88)).there w.heap.size 0 (c4 n).toArray.size:=(fresh4' w).there
theorem info4a (n:Nat):(Tryz.prog.info? 88).map (·.size)=some (c4 n).toArray.size:=info4
theorem yields_build2 {P:Program} {ops:Array Oper} {S:World→Prop} {o:Oper} {a:Act} (hw:Region.wanted o (yielded ops a.tmps)=true) (t:TypeId) (i j:Nat) (x y:Operand) (ho:o.op = .build t #[(i,x),(j,y)]) (u v:Value) (hx:a.eval x=u) (hy:a.eval y=v) (cells:Array Value)
 (hf:P.built t [(i,u),(j,v)]=some cells):YieldsIf P ops S o (.agg cells) a:=by
 refine .inl ⟨hw,fun w _ => ?_⟩
 unfold execOp
 simp only [ho,List.map_toArray,List.map_cons,List.map_nil,hx,hy]
 rw [Sem.run_bind,run_build w t _ cells hf]
 rfl
end Go.Proofs.YtcgkajlehdgpoaaGreatDoor
namespace Go.Proofs.YtcgkajlehdgpoaaGreatDoor
open Go.RowKit
def NewB (w w':World) (v:Value) (n:Nat) (X:Nat→Nat):Prop:=∃ g,v = .slice (some ⟨g,0,none⟩) n n∧w.heap.size≤g∧RowAt .u8 w' g 0 n X
theorem NewB.bytes {w w':World} {v:Value} {n:Nat} {X:Nat→Nat} (h:NewB w w' v n X) (h0:0<n):BytesIn w' v n X:=by
 obtain ⟨g,rfl,-,hr⟩:=h
 exact .inr ⟨g,0,n,rfl,block_lt_of_cell (hr 0 h0).1,Nat.le_refl _,fun j hj=>(hr j hj).1⟩
end Go.Proofs.YtcgkajlehdgpoaaGreatDoor
namespace Go.Proofs.YtcgkajlehdgpoaaGreatDoor
def Prm (n:Nat):Prop:=2≤n∧∀ d,d ∣ n→d=1∨d=n
theorem Prm.pos {n:Nat} (h:Prm n):0<n:=Nat.lt_of_lt_of_le (by decide) h.1
theorem prime_factor:∀ n,2≤n→∃ q,Prm q∧q ∣ n:=by
 intro n
 induction n using Nat.strongRecOn with
 | _ n ih =>
  intro hn
  by_cases h:Prm n
  · exact ⟨n,h,Nat.dvd_refl n⟩
  · have:∃ d,d ∣ n∧d≠1∧d≠n:=by
     apply Classical.byContradiction
     intro hc
     refine h ⟨hn,fun d hd => ?_⟩
     by_cases e1:d=1
     · exact .inl e1
     · by_cases e2:d=n
       · exact .inr e2
       · exact absurd ⟨d,hd,e1,e2⟩ hc
    obtain ⟨d,hd,h1,h2⟩:=this
    have hle:=Nat.le_of_dvd (by omega) hd
    have h0:d≠0:=fun e=>by rw [e] at hd;have:=Nat.eq_zero_of_zero_dvd hd;omega
    obtain ⟨q,hq,hqd⟩:=ih d (by omega) (by omega)
    exact ⟨q,hq,Nat.dvd_trans hqd hd⟩
theorem Prm.gcd {p:Nat} (h:Prm p) {a:Nat} (ha:¬p ∣ a):Nat.gcd p a=1:=by
 rcases h.2 _ (Nat.gcd_dvd_left p a) with e | e
 · exact e
 · exact absurd (e ▸ Nat.gcd_dvd_right p a) ha
theorem Prm.euclid {p:Nat} (h:Prm p) {a b:Nat} (hab:p ∣ a*b):p ∣ a∨p ∣ b:=by
 by_cases ha:p ∣ a
 · exact .inl ha
 · exact .inr (Nat.Coprime.dvd_of_dvd_mul_left (h.gcd ha) hab)
def cho:Nat→Nat→Nat
 | _,0=>1
 | 0,_+1=>0
 | n+1,k+1=>cho n k+cho n (k+1)
theorem cho_zero (n:Nat):cho n 0=1:=by cases n <;> rfl
theorem cho_big:∀ n k,n<k→cho n k=0
 | 0,k+1,_=>rfl
 | n+1,k+1,h=>by rw [cho,cho_big n k (by omega),cho_big n (k+1) (by omega)]
theorem cho_self:∀ n,cho n n=1
 | 0=>rfl
 | n+1=>by rw [cho,cho_self n,cho_big n (n+1) (by omega)]
theorem cho_mul:∀ n k,(k+1)*cho (n+1) (k+1)=(n+1)*cho n k
 | 0,0=>rfl
 | 0,k+1=>by rw [cho,cho,cho];rfl
 | n+1,0=>by
  have h:=cho_mul n 0
  rw [cho_zero] at h ⊢
  rw [cho,cho_zero]
  omega
 | n+1,k+1=>by
  have h1:=cho_mul n k
  have h2:=cho_mul n (k+1)
  have e1:cho (n+2) (k+2)=cho (n+1) (k+1)+cho (n+1) (k+2):=rfl
  have e2:cho (n+1) (k+1)=cho n k+cho n (k+1):=rfl
  rw [show n+1+1=n+2 from rfl,show k+1+1=k+2 from rfl] at *
  have e3:(k+2)*cho (n+1) (k+1)=(n+1)*cho n k+cho (n+1) (k+1):=by
   rw [show k+2=(k+1)+1 from rfl,Nat.succ_mul,h1]
  have e4:(n+1)*cho (n+1) (k+1)=(n+1)*cho n k+(n+1)*cho n (k+1):=by rw [e2,Nat.mul_add]
  have e5:(n+2)*cho (n+1) (k+1)=(n+1)*cho (n+1) (k+1)+cho (n+1) (k+1):=Nat.succ_mul _ _
  rw [e1,Nat.mul_add,h2,e3,e5,e4]
  omega
def bin (a n:Nat):Nat→Nat
 | 0=>0
 | m+1=>bin a n m+cho n m*a ^ m
theorem bin_step (a n:Nat):∀ m,bin a (n+1) (m+1)=bin a n (m+1)+a*bin a n m
 | 0=>by simp [bin,cho_zero]
 | m+1=>by
  rw [bin,bin_step a n m]
  have e:cho (n+1) (m+1)=cho n m+cho n (m+1):=rfl
  rw [e,Nat.add_mul]
  have h1:bin a n (m+1+1)=bin a n (m+1)+cho n (m+1)*a ^ (m+1):=rfl
  have h2:bin a n (m+1)=bin a n m+cho n m*a ^ m:=rfl
  rw [h1,h2,Nat.mul_add,Nat.pow_succ]
  have e2:a*(cho n m*a ^ m)=cho n m*(a ^ m*a):=by rw [Nat.mul_comm a,Nat.mul_assoc]
  rw [e2];omega
theorem bin_pow (a:Nat):∀ n,bin a n (n+1)=(a+1) ^ n
 | 0=>by simp [bin,cho_zero]
 | n+1=>by
  rw [bin_step]
  have h1:bin a n (n+1+1)=bin a n (n+1)+cho n (n+1)*a ^ (n+1):=rfl
  rw [h1,cho_big n (n+1) (by omega),Nat.zero_mul,Nat.add_zero,bin_pow a n,Nat.pow_succ,Nat.mul_comm _ (a+1),Nat.succ_mul,Nat.add_comm]
theorem bin_mod {p:Nat} (h:Prm p) (a:Nat):∀ m,m+1≤p→bin a p (m+1)%p=1%p
 | 0,_=>by simp [bin,cho_zero]
 | m+1,hm=>by
  have ih:=bin_mod h a m (by omega)
  have hd:p ∣ cho p (m+1):=by
   obtain ⟨n,rfl⟩:∃ n,p=n+1:=⟨p - 1,by have:=h.pos;omega⟩
   have e:=cho_mul n m
   have:n+1 ∣ (m+1)*cho (n+1) (m+1):=⟨_,e⟩
   rcases h.euclid this with h1 | h1
   · have:=Nat.le_of_dvd (by omega) h1;omega
   · exact h1
  have e:bin a p (m+1+1)=bin a p (m+1)+cho p (m+1)*a ^ (m+1):=rfl
  obtain ⟨c,hc⟩:=hd
  rw [e,hc,Nat.mul_assoc,Nat.add_mul_mod_self_left,ih]
theorem Prm.fermat {p:Nat} (h:Prm p):∀ a,a ^ p%p=a%p
 | 0=>by rw [Nat.zero_pow h.pos]
 | a+1=>by
  have e1:=bin_pow a p
  have e2:bin a p (p+1)=bin a p p+cho p p*a ^ p:=rfl
  obtain ⟨n,hn⟩:∃ n,p=n+1:=⟨p - 1,by have:=h.pos;omega⟩
  have e3:=bin_mod h a n (by omega)
  rw [←hn] at e3
  rw [←e1,e2,cho_self,Nat.one_mul,Nat.add_mod,e3,h.fermat a,←Nat.add_mod,Nat.add_comm]
theorem Prm.fermat1 {p:Nat} (h:Prm p) {a:Nat} (ha:¬p ∣ a):a ^ (p - 1)%p=1%p:=by
 have h1:=h.fermat a
 have hp:=h.pos
 obtain ⟨n,rfl⟩:∃ n,p=n+1:=⟨p - 1,by omega⟩
 rw [Nat.pow_succ] at h1
 rw [Nat.add_sub_cancel]
 have key:∀ x,(x*a)%(n+1)=a%(n+1)→x%(n+1)=1%(n+1):=by
  intro x hx
  have hd:n+1 ∣ ((x:Int)*a - a).natAbs:=by
   have:((n+1:Nat):Int) ∣ (x:Int)*a - a:=by
    apply Int.dvd_of_emod_eq_zero
    rw [Int.sub_emod,←Int.natCast_mul,←Int.natCast_emod,←Int.natCast_emod,hx,Int.sub_self,Int.zero_emod]
   exact Int.ofNat_dvd_left.1 this
  have e:((x:Int)*a - a)=((x:Int) - 1)*a:=by rw [Int.sub_mul,Int.one_mul]
  rw [e,Int.natAbs_mul,Int.natAbs_natCast] at hd
  rcases h.euclid hd with h2 | h2
  · have h3:((n+1:Nat):Int) ∣ (x:Int) - 1:=Int.ofNat_dvd_left.2 h2
    have h4:=Int.emod_eq_zero_of_dvd h3
    have h5:=(Int.emod_eq_emod_iff_emod_sub_eq_zero (m:=(x:Int)) (n:=((n+1:Nat):Int)) (k:=1)).2 h4
    have h6:(((x%(n+1):Nat):Int))=((1%(n+1):Nat):Int):=by
     rw [Int.natCast_emod,Int.natCast_emod];exact h5
    exact Int.ofNat_inj.1 h6
  · exact absurd h2 ha
 exact key _ h1
def pm (N a:Nat):Nat→Nat→Nat
 | 0,_=>1%N
 | k+1,e=>pm N a k (e / 2) ^ 2%N*a ^ (e%2)%N
theorem pm_eq (N a:Nat):∀ k e,e<2 ^ k→pm N a k e=a ^ e%N
 | 0,e,h=>by
  have:e=0:=by simpa using h
  rw [this,pm,Nat.pow_zero]
 | k+1,e,h=>by
  rw [pm,pm_eq N a k (e / 2) (by rw [Nat.pow_succ] at h;omega),←Nat.pow_mod,←Nat.pow_mul,Nat.mul_mod,Nat.mod_mod,←Nat.mul_mod,←Nat.pow_add]
  congr 2;omega
theorem pow_gcd (a s:Nat) (m n:Nat):a ^ m%s=1%s→a ^ n%s=1%s→a ^ (Nat.gcd m n)%s=1%s:=by
 induction m,n using Nat.gcd.induction with
 | H0 n=>intro _ h;rw [Nat.gcd_zero_left];exact h
 | H1 m n hm ih =>
  intro h1 h2
  rw [Nat.gcd_rec]
  refine ih ?_ h1
  have e:a ^ n=(a ^ m) ^ (n / m)*a ^ (n%m):=by rw [←Nat.pow_mul,←Nat.pow_add,Nat.div_add_mod]
  rw [e,Nat.mul_mod,Nat.pow_mod,h1,←Nat.pow_mod,Nat.one_pow,←Nat.mul_mod,Nat.one_mul] at h2
  exact h2
theorem pock {N f Q a:Nat} (hf:Prm f) (hN:N=f*Q+1) (hQ:0<Q) (h1:a ^ (N - 1)%N=1) (h2:Nat.gcd (a ^ Q%N+N - 1) N=1) (hs:Q / f+1<Q%f):Prm N:=by
 have hfp:=hf.pos
 have hf2:=hf.1
 have hNp:2≤N:=by
  have:1≤f*Q:=Nat.mul_pos hfp hQ
  omega
 have hN1:N - 1=f*Q:=by omega
 have step:∀ q,Prm q→q ∣ N→f ∣ q - 1:=fun q hq hqN=>by
  apply Classical.byContradiction
  intro hnd
  have hq1:1%q=1:=Nat.mod_eq_of_lt hq.1
  have e1:a ^ (N - 1)%q=1%q:=by rw [←Nat.mod_mod_of_dvd (a ^ (N - 1)) hqN,h1]
  have hqa:¬q ∣ a:=fun hd=>by
   have hd2:q ∣ a ^ (N - 1):=Nat.dvd_trans hd (by
    obtain ⟨k,hk⟩:∃ k,N - 1=k+1:=⟨N - 2,by omega⟩
    rw [hk,Nat.pow_succ];exact Nat.dvd_mul_left _ _)
   rw [Nat.mod_eq_zero_of_dvd hd2,hq1] at e1
   omega
  have e2:=hq.fermat1 hqa
  have e3:=pow_gcd a q _ _ e1 e2
  have hg1:=Nat.gcd_dvd_left (N - 1) (q - 1)
  have hg2:=Nat.gcd_dvd_right (N - 1) (q - 1)
  generalize Nat.gcd (N - 1) (q - 1)=g at *
  have hfg:¬f ∣ g:=fun h=>hnd (Nat.dvd_trans h hg2)
  rw [hN1] at hg1
  have hgQ:g ∣ Q:=Nat.Coprime.dvd_of_dvd_mul_left (Nat.Coprime.symm (hf.gcd hfg)) hg1
  obtain ⟨c,hc⟩:=hgQ
  have e4:a ^ Q%q=1:=by rw [hc,Nat.pow_mul,Nat.pow_mod,e3,←Nat.pow_mod,Nat.one_pow,hq1]
  have e5:a ^ Q%N%q=1:=by rw [Nat.mod_mod_of_dvd _ hqN,e4]
  have hd:q ∣ a ^ Q%N+N - 1:=by
   generalize a ^ Q%N=y at e5
   obtain ⟨n,hn⟩:=hqN
   have hy:y=q*(y / q)+1:=by have:=Nat.div_add_mod y q;omega
   refine ⟨y / q+n,?_⟩
   rw [Nat.mul_add,←hn]
   omega
  have:=Nat.dvd_gcd hd hqN
  rw [h2] at this
  have:=Nat.le_of_dvd (by decide) this
  have:=hq.1
  omega
 obtain ⟨q,hq,hqN⟩:=prime_factor N hNp
 by_cases e:q=N
 · rw [←e];exact hq
 · exfalso
   obtain ⟨t,ht⟩:=hqN
   obtain ⟨x,hx⟩:=step q hq ⟨t,ht⟩
   have hq2:=hq.1
   have hqe:q=f*x+1:=by omega
   have hx0:0<x:=by
    apply Nat.pos_of_ne_zero
    intro h0;rw [h0,Nat.mul_zero] at hqe;omega
   have e1:f*Q+1=(f*x+1)*t:=by rw [←hqe,←ht,hN]
   have e2:f*Q+1=f*(x*t)+t:=by rw [e1,Nat.add_mul,Nat.one_mul,Nat.mul_assoc]
   have ht0:0<t:=by
    apply Nat.pos_of_ne_zero
    intro h0;rw [h0,Nat.mul_zero] at ht;omega
   have hft:f ∣ t - 1:=by
    have h3:f*Q=f*(x*t)+(t - 1):=by omega
    have:f ∣ f*(x*t)+(t - 1):=⟨Q,h3.symm⟩
    exact (Nat.dvd_add_right (Nat.dvd_mul_right f _)).1 this
   obtain ⟨y,hy⟩:=hft
   have hte:t=f*y+1:=by omega
   have hy0:0<y:=by
    apply Nat.pos_of_ne_zero
    intro h0;rw [h0,Nat.mul_zero] at hte
    rw [hte,Nat.mul_one] at ht
    exact e ht.symm
   have h3:f*Q=f*(x*t)+f*y:=by omega
   have h4:Q=x*t+y:=Nat.eq_of_mul_eq_mul_left hfp (by rw [h3,Nat.mul_add])
   have h5:Q=f*(x*y)+(x+y):=by
    rw [h4,hte,Nat.mul_add,Nat.mul_one,Nat.mul_left_comm,Nat.add_assoc]
   have h6:x+y≤x*y+1:=by
    obtain ⟨u,rfl⟩:∃ u,x=u+1:=⟨x - 1,by omega⟩
    obtain ⟨v,rfl⟩:∃ v,y=v+1:=⟨y - 1,by omega⟩
    rw [Nat.add_mul,Nat.mul_add]
    omega
   have h7:x*y≤Q / f:=by
    rw [Nat.le_div_iff_mul_le hfp,Nat.mul_comm,h5]
    exact Nat.le_add_right _ _
   have h8:Q%f<f:=Nat.mod_lt _ hfp
   have h9:Q%f=x+y:=by
    rw [h5,Nat.mul_add_mod,Nat.mod_eq_of_lt (by omega)]
   omega
theorem prime_trial (n k:Nat) (hn:2≤n) (hk:n<k*k) (h:(List.range k).all (fun d=>decide (d<2) || decide (n%d≠0))=true):Prm n:=by
 obtain ⟨q,hq,hqn⟩:=prime_factor n hn
 have hno:∀ d,2≤d→d<k→¬d ∣ n:=fun d h2 hdk hd=>by
  have:=List.all_eq_true.1 h d (List.mem_range.2 hdk)
  rw [Bool.or_eq_true,decide_eq_true_eq,decide_eq_true_eq] at this
  rcases this with h3 | h3
  · omega
  · exact h3 (Nat.mod_eq_zero_of_dvd hd)
 by_cases e:q=n
 · rw [←e];exact hq
 · exfalso
   obtain ⟨t,ht⟩:=hqn
   have hq2:=hq.1
   have hqk:k≤q:=Nat.le_of_not_lt (fun hlt=>hno q hq2 hlt ⟨t,ht⟩)
   have ht0:t≠0:=fun h0=>by rw [h0,Nat.mul_zero] at ht;omega
   have ht1:t≠1:=fun h1=>by rw [h1,Nat.mul_one] at ht;exact e ht.symm
   have htk:k≤t:=Nat.le_of_not_lt (fun hlt=>hno t (by omega) hlt ⟨q,by rw [Nat.mul_comm];exact ht⟩)
   have:=Nat.mul_le_mul hqk htk
   omega
theorem prime0:Prm 8574133:=prime_trial 8574133 2929 (by decide) (by decide) (by kernel_rfl)
theorem prime1:Prm 1919519569386763 :=
 pock (f:=8574133) (Q:=223873314) (a:=2) prime0 (by decide) (by decide)
  (by rw [←pm_eq 1919519569386763 2 256 (1919519569386763 - 1) (by decide)];kernel_rfl)
  (by rw [←pm_eq 1919519569386763 2 256 223873314 (by decide)];kernel_rfl) (by decide)
theorem prime2:Prm 75445702479781427272750846543864801 :=
 pock (f:=1919519569386763) (Q:=39304471641247389600) (a:=2) prime1 (by decide) (by decide)
  (by rw [←pm_eq 75445702479781427272750846543864801 2 256 (75445702479781427272750846543864801 - 1) (by decide)];kernel_rfl)
  (by rw [←pm_eq 75445702479781427272750846543864801 2 256 39304471641247389600 (by decide)];kernel_rfl) (by decide)
theorem prime3:Prm 74058212732561358302231226437062788676166966415465897661863160754340907 :=
 pock (f:=75445702479781427272750846543864801) (Q:=981609426360740691344999861639072106) (a:=2) prime2 (by decide) (by decide)
  (by rw [←pm_eq 74058212732561358302231226437062788676166966415465897661863160754340907 2 256 (74058212732561358302231226437062788676166966415465897661863160754340907 - 1) (by decide)];kernel_rfl)
  (by rw [←pm_eq 74058212732561358302231226437062788676166966415465897661863160754340907 2 256 981609426360740691344999861639072106 (by decide)];kernel_rfl) (by decide)
theorem prime4:Prm 57896044618658097711785492504343953926634992332820282019728792003956564819949 :=
 pock (f:=74058212732561358302231226437062788676166966415465897661863160754340907) (Q:=781764) (a:=2) prime3 (by decide) (by decide)
  (by rw [←pm_eq 57896044618658097711785492504343953926634992332820282019728792003956564819949 2 256 (57896044618658097711785492504343953926634992332820282019728792003956564819949 - 1) (by decide)];kernel_rfl)
  (by rw [←pm_eq 57896044618658097711785492504343953926634992332820282019728792003956564819949 2 256 781764 (by decide)];kernel_rfl) (by decide)
theorem prime_p:Prm pF:=prime4
end Go.Proofs.YtcgkajlehdgpoaaGreatDoor
namespace Go.Proofs.YtcgkajlehdgpoaaGreatDoor
theorem not_dvd {x:Nat} (h0:x≠0) (hx:x<pF):¬pF ∣ x:=fun h=>by have:=Nat.le_of_dvd (Nat.pos_of_ne_zero h0) h;omega
theorem pF_one:1%pF=1:=by decide
theorem inv_mul {x:Nat} (h0:x≠0) (hx:x<pF):x*(x ^ (pF - 2)%pF)%pF=1:=by
 have h:=prime_p.fermat1 (not_dvd h0 hx)
 have e:pF - 1=(pF - 2).succ:=by decide
 rw [Nat.mul_mod,Nat.mod_mod,←Nat.mul_mod,Nat.mul_comm,←Nat.pow_succ,←e,h,pF_one]
end Go.Proofs.YtcgkajlehdgpoaaGreatDoor
namespace Go.Proofs.YtcgkajlehdgpoaaGreatDoor
open Go.RowKit
section
variable {P:Program} {md:Region.Mode} {ops:Array Oper} {Q:Exit→Act→World→Prop} {S:World→Prop} {fuel:Nat} {listed:Array Bool} {a:Act} {w:World}
theorem aG {i:Nat} {rs:List Nat} (oi:Oper) (v:Nat→Value) (cs:List Value) (t:TypeId) (hk:∀ u,Below w.heap.size w u→S u) (h:∀ w1 g,w.heap.size≤g→Below w.heap.size w w1→RW w1 g 0 cs→wpAnyH P md ops Q S fuel (listed.setIfInBounds i true) (a.put oi.dst (v g)) w1) (hs:AllReadyH P md ops Q S fuel listed a w rs)
 (hrun:(execOp a.eval oi).run P w = .ok (.value (v w.heap.size)) (w.alloc (.cells cs.toArray t)):=by kernel_rfl) (hi:ops[i]? = some oi:=by rfl) (hw:Region.wanted oi (yielded ops a.tmps)=true:=by rfl):AllReadyH P md ops Q S fuel listed a w (i :: rs):=by
 have hb:Below w.heap.size w (w.alloc (.cells cs.toArray t)):=bR.alloc (Nat.le_refl _) _
 refine AllReadyH.cons hi (fun K hK => ?_) hs
 rw [if_pos hw]
 unfold Oper.wp
 rw [hrun,Oper.upon_value]
 exact hK.out _ _ (hk _ hb) (fun _=>h _ _ (Nat.le_refl _) hb (RW.fresh w cs t))
theorem aL {i:Nat} {rs:List Nat} (oi:Oper) (ty k:Nat) {g off:Nat} {cs:List Value} {d:TypeDesc} (r:RW w g off cs) (hS:S w) (hu:P.underlying ty=some d) (hin:(P.info? ty).map (·.size)=some cs.length) (h:wpAnyH P md ops Q S fuel (listed.setIfInBounds i true) (a.put oi.dst (.agg cs.toArray)) w) (hs:AllReadyH P md ops Q S fuel listed a w rs)
 (hd:d.isRow=true:=by rfl) (ho:oi.op = .load ty (.tmp k):=by rfl) (hx:a.eval (.tmp k) = .pointer (some ⟨g,off,none⟩):=by rfl) (hi:ops[i]? = some oi:=by rfl) (hw:Region.wanted oi (yielded ops a.tmps)=true:=by rfl):AllReadyH P md ops Q S fuel listed a w (i :: rs):=by
 refine AllReadyH.cons hi (fun K hK => ?_) hs
 rw [if_pos hw]
 exact wp_load_mid ty _ ho g off hx cs d r.range hu hd hin (hK.out _ _ hS (fun _=>h))
theorem aT {i:Nat} {rs:List Nat} (oi:Oper) (ty x y:Nat) {g off:Nat} {cs:List Value} (ds:List Value) (r:RW w g off cs) (hl:ds.length=cs.length) (hk:S (w.setCells g off ds)) (hin:(P.info? ty).map (·.size)=some ds.toArray.size) (h1:ds.toArray.all (·.oneCell')=true) (h:RW (w.setCells g off ds) g off ds→wpAnyH P md ops Q S fuel (listed.setIfInBounds i true) (a.put oi.dst undef) (w.setCells g off ds)) (hs:AllReadyH P md ops Q S fuel listed a w rs)
 (ho:oi.op = .store ty (.tmp x) (.tmp y):=by rfl) (hx:a.eval (.tmp x) = .pointer (some ⟨g,off,none⟩):=by rfl) (hy:a.eval (.tmp y) = .agg ds.toArray:=by rfl) (hi:ops[i]? = some oi:=by rfl) (hw:Region.wanted oi (yielded ops a.tmps)=true:=by rfl):AllReadyH P md ops Q S fuel listed a w (i :: rs):=by
 refine AllReadyH.cons hi (fun K hK => ?_) hs
 rw [if_pos hw]
 exact wp_store_mid ty _ _ ho g off ds.toArray hx hy (by rw [List.size_toArray,hl];exact r.there) hin h1 (hK.out _ _ hk (fun _=>h (r.stored ds hl)))
end
end Go.Proofs.YtcgkajlehdgpoaaGreatDoor
namespace Go.Proofs.YtcgkajlehdgpoaaGreatDoor
def iM:Nat:=19681161376707505956807079304988542015446066515923890162744021073123829784752
theorem iM_sq:iM*iM%pF=pF - 1:=by kernel_rfl
theorem mulm (a b:Nat):a%pF*b%pF=a*b%pF:=by rw [Nat.mul_mod,Nat.mod_mod,←Nat.mul_mod]
theorem mulm' (a b:Nat):a*(b%pF)%pF=a*b%pF:=by rw [Nat.mul_mod,Nat.mod_mod,←Nat.mul_mod]
theorem powm (a n:Nat):(a%pF) ^ n%pF=a ^ n%pF:=(Nat.pow_mod a n pF).symm
theorem neg_mul (u w:Nat) (hu:u<pF):(0+pF - u)%pF*w%pF=(0+pF - u*w%pF)%pF:=by
 rw [Nat.zero_add,mulm,Nat.sub_mul]
 have h1:u*w≤pF*w:=Nat.mul_le_mul_right _ (Nat.le_of_lt hu)
 have hd:=Nat.div_add_mod (u*w) pF
 have hm:u*w%pF<pF:=Nat.mod_lt _ pF_pos
 generalize u*w=T at *
 generalize T%pF=m at *
 generalize T / pF=d at *
 by_cases h0:m=0
 · have e:pF*w - T=pF*(w - d):=by rw [Nat.mul_sub];omega
   rw [e,Nat.mul_mod_right,h0,Nat.sub_zero,Nat.mod_self]
 · have hdw:d<w:=by
    rcases Nat.lt_or_ge d w with h | h
    · exact h
    · have:=Nat.mul_le_mul_left pF h
      omega
   have e:pF*w - T=(pF - m)+pF*(w - d - 1):=by
    have h3:pF*(w - d - 1)=pF*w - pF*d - pF:=by rw [Nat.mul_sub,Nat.mul_sub,Nat.mul_one]
    have h4:pF*d+pF≤pF*w:=by
     have:=Nat.mul_le_mul_left pF (show d+1≤w by omega)
     rwa [Nat.mul_succ] at this
    omega
   rw [e,Nat.add_mul_mod_self_left]
theorem times_sq {i:Nat} (hi:i*i%pF=pF - 1) (x:Nat):x*i%pF*(x*i%pF)%pF=(0+pF - x*x%pF)%pF:=by
 have e:x*i%pF*(x*i%pF)%pF=(i*i%pF)*(x*x%pF)%pF:=by
  simp only [mulm,mulm']
  congr 1
  ac_rfl
 have h1:(0+pF - 1)%pF=pF - 1:=by decide
 have h2:=neg_mul 1 (x*x%pF) (by decide)
 rw [h1,Nat.one_mul,Nat.mod_mod] at h2
 rw [e,hi,h2]
end Go.Proofs.YtcgkajlehdgpoaaGreatDoor
