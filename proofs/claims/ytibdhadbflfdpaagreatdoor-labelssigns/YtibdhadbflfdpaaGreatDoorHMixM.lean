/- What the proof stands on: HMix, HEng. -/
import Derived.Test.YtibdhadbflfdpaaGreatDoorHMathM
namespace Go.Proofs.YtibdhadbflfdpaaGreatDoor
open Nat renaming le_refl → JW
open Go renaming wpList_store_mid → J2
open Go renaming block_lt_of_cell → J5
open Go.RowKit
structure St where
 a:Nat
 b:Nat
 c:Nat
 d:Nat
 e:Nat
 f:Nat
 g:Nat
 h:Nat
def Be (m e f g:Nat):Nat:=(e &&& f) ^^^ ((2 ^ m - 1 - e) &&& g)
def Bg (a b c:Nat):Nat:=(a &&& b) ^^^ (a &&& c) ^^^ (b &&& c)
def I4 (r:Ru) (kt wt:Nat) (s:St):Nat:=(s.h+wD r.m s.e r.l1+Be r.m s.e s.f s.g+kt+wt)%2 ^ r.m
def Jj (r:Ru) (s:St):Nat:=(wD r.m s.a r.l0+Bg s.a s.b s.c)%2 ^ r.m
def rj (r:Ru) (kt wt:Nat) (s:St):St:=⟨(I4 r kt wt s+Jj r s)%2 ^ r.m,s.a,s.b,s.c,(s.d+I4 r kt wt s)%2 ^ r.m,s.e,s.f,s.g⟩
def aO (r:Ru) (K W:Nat→Nat) (s:St):Nat→St
 | 0=>s
 | t+1=>rj r (K t / 2 ^ (64 - r.m)) (W t) (aO r K W s t)
def xE (r:Ru) (s x:St):St:=⟨(s.a+x.a)%2 ^ r.m,(s.b+x.b)%2 ^ r.m,(s.c+x.c)%2 ^ r.m,(s.d+x.d)%2 ^ r.m,(s.e+x.e)%2 ^ r.m,(s.f+x.f)%2 ^ r.m,(s.g+x.g)%2 ^ r.m,(s.h+x.h)%2 ^ r.m⟩
def aU (r:Ru) (K:Nat→Nat) (bs:Nat→Nat) (s:St):St:=xE r s (aO r K (eo r (fill r.m (r.m / 8) bs (2*r.m)) (r.rounds - 16)) s r.rounds)
structure St.lt (p:Nat) (s:St):Prop where
 a:s.a<p
 b:s.b<p
 c:s.c<p
 d:s.d<p
 e:s.e<p
 f:s.f<p
 g:s.g<p
 h:s.h<p
theorem Do {r:Ru} {kt wt:Nat} {s:St} (h:s.lt (2 ^ r.m)):(rj r kt wt s).lt (2 ^ r.m) :=
 ⟨Nat.mod_lt _ (Nat.two_pow_pos _),h.a,h.b,h.c,Nat.mod_lt _ (Nat.two_pow_pos _),h.e,h.f,h.g⟩
theorem ig {r:Ru} {K W:Nat→Nat} {s:St} (h:s.lt (2 ^ r.m)):∀ t,(aO r K W s t).lt (2 ^ r.m)
 | 0=>h
 | t+1=>Do (ig h t)
theorem nE {r:Ru} {s x:St}:(xE r s x).lt (2 ^ r.m):=by constructor <;> exact Nat.mod_lt _ (Nat.two_pow_pos _)
def St.at (s:St):Nat→Nat
 | 0=>s.a
 | 1=>s.b
 | 2=>s.c
 | 3=>s.d
 | 4=>s.e
 | 5=>s.f
 | 6=>s.g
 | _=>s.h
def St.vals (K:IntKind) (s:St):Array Value:=#[.int K s.a,.int K s.b,.int K s.c,.int K s.d,.int K s.e,.int K s.f,.int K s.g,.int K s.h]
theorem ah.st {K:IntKind} {w:World} {b:Nat} {s:St} (h:ah K w b 0 8 s.at):w.cell? ⟨b,0,none⟩=some (.int K s.a)∧w.cell? ⟨b,1,none⟩=some (.int K s.b)∧w.cell? ⟨b,2,none⟩=some (.int K s.c)∧w.cell? ⟨b,3,none⟩=some (.int K s.d)∧w.cell? ⟨b,4,none⟩=some (.int K s.e)∧w.cell? ⟨b,5,none⟩=some (.int K s.f)∧w.cell? ⟨b,6,none⟩=some (.int K s.g)∧w.cell? ⟨b,7,none⟩=some (.int K s.h) :=
 ⟨(h 0 (by decide)).1,(h 1 (by decide)).1,(h 2 (by decide)).1,(h 3 (by decide)).1,(h 4 (by decide)).1,(h 5 (by decide)).1,(h 6 (by decide)).1,(h 7 (by decide)).1⟩
def aY (w1:World) (B:Nat):Prop:=w1.cell? ⟨B,0,none⟩=some (.int .i64 32)∧w1.cell? ⟨B,1,none⟩=some (.int .i64 64)∧w1.cell? ⟨B,2,none⟩=some (.int .u64 7)∧w1.cell? ⟨B,3,none⟩=some (.int .u64 18)∧w1.cell? ⟨B,4,none⟩=some (.int .u64 3)∧w1.cell? ⟨B,5,none⟩=some (.int .u64 17)∧w1.cell? ⟨B,6,none⟩=some (.int .u64 19)∧w1.cell? ⟨B,7,none⟩=some (.int .u64 10)∧w1.cell? ⟨B,8,none⟩=some (.int .u64 2)∧w1.cell? ⟨B,9,none⟩=some (.int .u64 13)∧w1.cell? ⟨B,10,none⟩=some (.int .u64 22)∧w1.cell? ⟨B,11,none⟩=some (.int .u64 6)∧w1.cell? ⟨B,12,none⟩=some (.int .u64 11)∧w1.cell? ⟨B,13,none⟩=some (.int .u64 25)
theorem aY.below {w1 w2:World} {B n:Nat} (h:aY w1 B) (hb:Below n w1 w2) (hB:B<n):aY w2 B:=by
 have hc:∀ j,w2.cell? ⟨B,j,none⟩=w1.cell? ⟨B,j,none⟩:=fun j=>hb.cell (p:=⟨B,j,none⟩) hB
 unfold aY at *;simp only [hc];exact h
theorem aY.of_box {W w1:World} (h:Below (W.heap.size+1) (W.alloc (.cells #[.int .i64 32,.int .i64 64,.int .u64 7,.int .u64 18,.int .u64 3,.int .u64 17,.int .u64 19,.int .u64 10,.int .u64 2,.int .u64 13,.int .u64 22,.int .u64 6,.int .u64 11,.int .u64 25] 158)) w1):aY w1 W.heap.size:=n9 h _ rfl
theorem Ia (e:Nat) (he:e<4294967296):bits .xor .u32 IntKind.u32.max e=((2 ^ 32 - 1 - e:Nat):Int):=by
 have h1:IntKind.u32.max=((4294967295:Nat):Int):=rfl;rw [h1,u32_xor_nat _ _ (by decide) he];have h2:=congrArg BitVec.toNat (BitVec.not_def (x:=BitVec.ofNat 32 e));rw [BitVec.toNat_not,BitVec.toNat_xor,BitVec.toNat_allOnes,BitVec.toNat_ofNat,Nat.mod_eq_of_lt he] at h2;rw [h2]
theorem IR (e f g:Nat) (he:e<4294967296) (hf:f<4294967296) (hg:g<4294967296):bits .xor .u32 (bits .and .u32 e f) (bits .and .u32 (bits .xor .u32 IntKind.u32.max e) g)=((Be 32 e f g:Nat):Int):=by
 rw [Ia e he,u32_and_nat _ _ he hf,u32_and_nat _ _ (Nat.lt_of_le_of_lt (Nat.sub_le _ _) (by decide)) hg,u32_xor_nat _ _ (Nat.and_lt_two_pow (n:=32) _ hf) (Nat.and_lt_two_pow (n:=32) _ hg)];rfl
theorem Iq (a b c:Nat) (ha:a<4294967296) (hb:b<4294967296) (hc:c<4294967296):bits .xor .u32 (bits .xor .u32 (bits .and .u32 a b) (bits .and .u32 a c)) (bits .and .u32 b c)=((Bg a b c:Nat):Int):=by
 rw [u32_and_nat _ _ ha hb,u32_and_nat _ _ ha hc,u32_and_nat _ _ hb hc,u32_xor_nat _ _ (Nat.and_lt_two_pow (n:=32) _ hb) (Nat.and_lt_two_pow (n:=32) _ hc),u32_xor_nat _ _ (Nat.xor_lt_two_pow (n:=32) (Nat.and_lt_two_pow (n:=32) _ hb) (Nat.and_lt_two_pow (n:=32) _ hc)) (Nat.and_lt_two_pow (n:=32) _ hc)];rfl
theorem I6 (x:St) (hx:x.lt 4294967296) (kk wt:Nat) (ki:Int) (hki:ki=(kk:Int)):((((((x.h:Int)+wD 32 x.e (6,11,25))%4294967296+bits .xor .u32 (bits .and .u32 x.e x.f) (bits .and .u32 (bits .xor .u32 IntKind.u32.max x.e) x.g))%4294967296+ki)%4294967296+wt)%4294967296)=((I4 rn kk wt x:Nat):Int):=by
 rw [IR _ _ _ hx.e hx.f hx.g,hki];show _=(((x.h+wD 32 x.e (6,11,25)+Be 32 x.e x.f x.g+kk+wt)%4294967296:Nat):Int);generalize wD 32 x.e (6,11,25)=A;generalize Be 32 x.e x.f x.g=B;omega
theorem IB (x:St) (hx:x.lt 4294967296):((wD 32 x.a (2,13,22):Int)+bits .xor .u32 (bits .xor .u32 (bits .and .u32 x.a x.b) (bits .and .u32 x.a x.c)) (bits .and .u32 x.b x.c))%4294967296=((Jj rn x:Nat):Int):=by
 rw [Iq _ _ _ hx.a hx.b hx.c];rfl
structure kE (w w2:World) (s:St) (W:Nat→Nat) (N:Nat):Prop where
 rules:aY w2 w.heap.size
 state:ah .u32 w2 (w.heap.size+1) 0 8 s.at
 res:ah .u32 w2 (w.heap.size+1+1) 0 8 (fun _=>0)
 row:ah .u32 w2 N 0 80 W
 old:Below w.heap.size w w2
 far:w.heap.size+1+1<N
theorem kE.below {w w2 w3:World} {s:St} {W:Nat→Nat} {N:Nat} (h:kE w w2 s W N) (hb:Below w2.heap.size w2 w3):kE w w3 s W N:=by
 have hN:N<w2.heap.size:=J5 (h.row 0 (by decide)).1;have:=h.far;exact ⟨h.rules.below hb (by omega),h.state.below hb (by omega),h.res.below hb (by omega),h.row.below hb hN,h.old.trans (hb.mono h.old.size),h.far⟩
theorem DO {w w1:World} {s:St} {W:Nat→Nat} (h:Below (((w.alloc (.cells #[.int .i64 32,.int .i64 64,.int .u64 7,.int .u64 18,.int .u64 3,.int .u64 17,.int .u64 19,.int .u64 10,.int .u64 2,.int .u64 13,.int .u64 22,.int .u64 6,.int .u64 11,.int .u64 25] 158)).alloc (.cells #[.int .u32 s.a,.int .u32 s.b,.int .u32 s.c,.int .u32 s.d,.int .u32 s.e,.int .u32 s.f,.int .u32 s.g,.int .u32 s.h] 151)).alloc (.cells #[.int .u32 0,.int .u32 0,.int .u32 0,.int .u32 0,.int .u32 0,.int .u32 0,.int .u32 0,.int .u32 0] 151)).heap.size (((w.alloc (.cells #[.int .i64 32,.int .i64 64,.int .u64 7,.int .u64 18,.int .u64 3,.int .u64 17,.int .u64 19,.int .u64 10,.int .u64 2,.int .u64 13,.int .u64 22,.int .u64 6,.int .u64 11,.int .u64 25] 158)).alloc (.cells #[.int .u32 s.a,.int .u32 s.b,.int .u32 s.c,.int .u32 s.d,.int .u32 s.e,.int .u32 s.f,.int .u32 s.g,.int .u32 s.h] 151)).alloc (.cells #[.int .u32 0,.int .u32 0,.int .u32 0,.int .u32 0,.int .u32 0,.int .u32 0,.int .u32 0,.int .u32 0] 151)) w1) :
 kE w ((w1.alloc (.cells pH 247)).setCells w1.heap.size 0 (au .u32 80 W)) s W w1.heap.size:=by
 have hz:=h.size;simp only [World.size_alloc] at hz h;have g1:Below (w.heap.size+1) (w.alloc (.cells #[.int .i64 32,.int .i64 64,.int .u64 7,.int .u64 18,.int .u64 3,.int .u64 17,.int .u64 19,.int .u64 10,.int .u64 2,.int .u64 13,.int .u64 22,.int .u64 6,.int .u64 11,.int .u64 25] 158)) w1:=(((Below.refl _ _).alloc (by simp) _).alloc (by simp) _).trans (h.mono (by omega))
 have g2:ah .u32 w1 (w.heap.size+1) 0 8 s.at:=by
  have a0:ah .u32 ((w.alloc (.cells #[.int .i64 32,.int .i64 64,.int .u64 7,.int .u64 18,.int .u64 3,.int .u64 17,.int .u64 19,.int .u64 10,.int .u64 2,.int .u64 13,.int .u64 22,.int .u64 6,.int .u64 11,.int .u64 25] 158)).alloc (.cells #[.int .u32 s.a,.int .u32 s.b,.int .u32 s.c,.int .u32 s.d,.int .u32 s.e,.int .u32 s.f,.int .u32 s.g,.int .u32 s.h] 151)) (w.heap.size+1) 0 8 s.at:=by
   have:=ah.fresh (K := .u32) (w:=w.alloc (.cells #[.int .i64 32,.int .i64 64,.int .u64 7,.int .u64 18,.int .u64 3,.int .u64 17,.int .u64 19,.int .u64 10,.int .u64 2,.int .u64 13,.int .u64 22,.int .u64 6,.int .u64 11,.int .u64 25] 158)) (cs:=#[.int .u32 s.a,.int .u32 s.b,.int .u32 s.c,.int .u32 s.d,.int .u32 s.e,.int .u32 s.f,.int .u32 s.g,.int .u32 s.h]) (t:=151) (n:=8) (X:=s.at) (fun j hj=>by
    match j,hj with
    | 0,_=>rfl
    | 1,_=>rfl
    | 2,_=>rfl
    | 3,_=>rfl
    | 4,_=>rfl
    | 5,_=>rfl
    | 6,_=>rfl
    | 7,_=>rfl)
   simpa using this
  exact (a0.alloc (by simp) _).below h (by omega)
 have g3:ah .u32 w1 (w.heap.size+1+1) 0 8 (fun _=>0):=by
  have a0:ah .u32 (((w.alloc (.cells #[.int .i64 32,.int .i64 64,.int .u64 7,.int .u64 18,.int .u64 3,.int .u64 17,.int .u64 19,.int .u64 10,.int .u64 2,.int .u64 13,.int .u64 22,.int .u64 6,.int .u64 11,.int .u64 25] 158)).alloc (.cells #[.int .u32 s.a,.int .u32 s.b,.int .u32 s.c,.int .u32 s.d,.int .u32 s.e,.int .u32 s.f,.int .u32 s.g,.int .u32 s.h] 151)).alloc (.cells #[.int .u32 0,.int .u32 0,.int .u32 0,.int .u32 0,.int .u32 0,.int .u32 0,.int .u32 0,.int .u32 0] 151)) (w.heap.size+1+1) 0 8 (fun _=>0):=by
   have:=ah.fresh (K := .u32) (w:=(w.alloc (.cells #[.int .i64 32,.int .i64 64,.int .u64 7,.int .u64 18,.int .u64 3,.int .u64 17,.int .u64 19,.int .u64 10,.int .u64 2,.int .u64 13,.int .u64 22,.int .u64 6,.int .u64 11,.int .u64 25] 158)).alloc (.cells #[.int .u32 s.a,.int .u32 s.b,.int .u32 s.c,.int .u32 s.d,.int .u32 s.e,.int .u32 s.f,.int .u32 s.g,.int .u32 s.h] 151)) (cs:=#[.int .u32 0,.int .u32 0,.int .u32 0,.int .u32 0,.int .u32 0,.int .u32 0,.int .u32 0,.int .u32 0]) (t:=151) (n:=8) (X:=fun _=>0) (fun j hj=>by
    match j,hj with
    | 0,_=>rfl
    | 1,_=>rfl
    | 2,_=>rfl
    | 3,_=>rfl
    | 4,_=>rfl
    | 5,_=>rfl
    | 6,_=>rfl
    | 7,_=>rfl)
   simpa using this
  exact a0.below h (by omega)
 have hnew:ah .u32 (w1.alloc (.cells pH 247)) w1.heap.size 0 80 (fun _=>0):=ah.fresh (fun j hj=>nI j hj);have hb2:Below w1.heap.size w1 ((w1.alloc (.cells pH 247)).setCells w1.heap.size 0 (au .u32 80 W)):=ac (JW _) _ _ _ ((Below.refl _ _).alloc (JW _) _);have ho:Below w.heap.size w w1:=((((Below.refl _ _).alloc (JW _) _).alloc (by simp) _).alloc (by simp only [World.size_alloc];omega) _).trans (h.mono (by omega));refine ⟨(aY.of_box g1).below hb2 (by omega),g2.below hb2 (by omega),g3.below hb2 (by omega),fun j hj=>⟨?_,?_⟩,ho.trans (hb2.mono (by omega)),by omega⟩
 · exact World.rangeAt_setCells_same _ _ _ _ (by rw [ak];exact hnew.there) j _ (bo _ _ _ j hj)
 · rw [World.frozen?_setCells];exact (hnew j hj).2
set_option maxRecDepth 20000 in
set_option maxHeartbeats 1000000 in
theorem lS (K:Nat→Nat) (hK:∀ j,K j<18446744073709551616) (s:St) (hs:s.lt 4294967296) (bb ob cap:Nat) (bs:Nat→Nat) (hbs:∀ j,bs j<256) (w:World)
 (hcub:∀ j,j<80→w.cell? ⟨4,j,none⟩=some (.int .u64 (K j))) (hcell:∀ j,j<64→w.cell? ⟨bb,ob+j,none⟩=some (.int .u8 (bs j))) :
 Calls Tryz.prog 186 #[(.agg #[.int .i64 32,.int .i64 64,.int .u64 7,.int .u64 18,.int .u64 3,.int .u64 17,.int .u64 19,.int .u64 10,.int .u64 2,.int .u64 13,.int .u64 22,.int .u64 6,.int .u64 11,.int .u64 25]),.agg #[.int .u32 s.a,.int .u32 s.b,.int .u32 s.c,.int .u32 s.d,.int .u32 s.e,.int .u32 s.f,.int .u32 s.g,.int .u32 s.h],.slice (some ⟨bb,ob,none⟩) 64 cap] w
  fun e w'=>e = .returned (.agg (St.vals .u32 (aU rn K bs s)))∧Below w.heap.size w w':=by
 have hz:=yr;have hbb:bb<w.heap.size:=J5 (hcell 0 (by decide));have h3:4<w.heap.size:=J5 (hcub 0 (by decide))
 have hcell':∀ j,j<64→(((w.alloc (.cells #[.int .i64 32,.int .i64 64,.int .u64 7,.int .u64 18,.int .u64 3,.int .u64 17,.int .u64 19,.int .u64 10,.int .u64 2,.int .u64 13,.int .u64 22,.int .u64 6,.int .u64 11,.int .u64 25] 158)).alloc (.cells #[.int .u32 s.a,.int .u32 s.b,.int .u32 s.c,.int .u32 s.d,.int .u32 s.e,.int .u32 s.f,.int .u32 s.g,.int .u32 s.h] 151)).alloc (.cells #[.int .u32 0,.int .u32 0,.int .u32 0,.int .u32 0,.int .u32 0,.int .u32 0,.int .u32 0,.int .u32 0] 151)).cell? ⟨bb,ob+j,none⟩=some (.int .u8 (bs j)):=fun j hj=>by
  rw [World.cell?_alloc_lt _ _ _ (by simp;omega),World.cell?_alloc_lt _ _ _ (by simp;omega),World.cell?_alloc_lt _ _ _ hbb];exact hcell j hj
 have hW:∀ j,eo rn (fill 32 4 bs 64) (64 - 16) j<4294967296:=gY (r:=rn) (kj (fun j=>Nat.lt_of_lt_of_le (hbs j) (by decide)) 64) _
 obtain ⟨W,hW'⟩:∃ W,W=eo rn (fill 32 4 bs 64) (64 - 16):=⟨_,rfl⟩
 have HW:Hid (W=eo rn (fill 32 4 bs 64) (64 - 16)):=hW';have hsp:=sM bb ob cap bs hbs (((w.alloc (.cells #[.int .i64 32,.int .i64 64,.int .u64 7,.int .u64 18,.int .u64 3,.int .u64 17,.int .u64 19,.int .u64 10,.int .u64 2,.int .u64 13,.int .u64 22,.int .u64 6,.int .u64 11,.int .u64 25] 158)).alloc (.cells #[.int .u32 s.a,.int .u32 s.b,.int .u32 s.c,.int .u32 s.d,.int .u32 s.e,.int .u32 s.f,.int .u32 s.g,.int .u32 s.h] 151)).alloc (.cells #[.int .u32 0,.int .u32 0,.int .u32 0,.int .u32 0,.int .u32 0,.int .u32 0,.int .u32 0,.int .u32 0] 151)) hcell';rw [←hW'] at hW hsp;clear hW' hcell hcell'
 have hi:(Tryz.prog.info? 247).map (·.size)=some (au .u32 80 W).toArray.size:=by simp only [List.size_toArray,ak];kernel_rfl
 have hone:=all_oneCell_toArray (bW .u32 80 W);go_enter Tryz.func186,Tryz.ntmps186
 go_wp2_with (first
  | (go_at_call 223;refine hsp.mono ?_;clear hsp;rintro e w1 ⟨rfl,hb1⟩;have HM:=DO (W:=W) hb1;have ht:(w1.alloc (.cells pH 247)).there w1.heap.size 0 (au .u32 80 W).toArray.size:=(by simp only [List.size_toArray,ak];exact (ah.fresh (K := .u32) (X:=fun _=>0) (fun j hj=>nI j hj)).there);clear hb1)
  | (refine J2 rfl 247 _ _ rfl _ 0 _ rfl rfl ht hi hone ?_;rw [List.toList_toArray];obtain ⟨w2,hw2⟩:∃ w2,w2=(w1.alloc (.cells pH 247)).setCells w1.heap.size 0 (au .u32 80 W):=⟨_,rfl⟩;rw [←hw2] at HM ⊢;clear hw2 ht hi hone hz;have p0:=HM.rules.1;have p1:=HM.rules.2.1;obtain ⟨q0,q1,q2,q3,q4,q5,q6,q7⟩:=HM.state.st))
 go_quiet (fail);go_wp2;clear p0 p1 q0 q1 q2 q3 q4 q5 q6 q7;go_loopw [9,10,11,12,13,14,15,16,44] (fun a b c d e f g h i wr=>∃ k:Nat,k≤64∧i = .int .i64 k∧a = .int .u32 (aO rn K W s k).a∧b = .int .u32 (aO rn K W s k).b∧c = .int .u32 (aO rn K W s k).c∧d = .int .u32 (aO rn K W s k).d∧e = .int .u32 (aO rn K W s k).e∧f = .int .u32 (aO rn K W s k).f∧g = .int .u32 (aO rn K W s k).g∧h = .int .u32 (aO rn K W s k).h∧kE w wr s W w1.heap.size) (fun _ _ _ _ _ _ _ _ i _=>64 - (intOf i).toNat)
 case atStart=>exact ⟨0,Nat.zero_le _,rfl,rfl,rfl,rfl,rfl,rfl,rfl,rfl,rfl,HM.below (bU (Below.refl _ _) _)⟩
 case round =>
  clear HM;obtain ⟨k,hk,rfl,rfl,rfl,rfl,rfl,rfl,rfl,rfl,rfl,HM⟩:=hrel
  by_cases hlt:k<64
  · have hx:(aO rn K W s k).lt 4294967296:=ig (r:=rn) hs k
    obtain ⟨x,hxe⟩:∃ x,x=aO rn K W s k:=⟨_,rfl⟩
    have HX:Hid (x=aO rn K W s k):=hxe;rw [←hxe] at hx ⊢;clear hxe;obtain ⟨p0,p1,p2,p3,p4,p5,p6,p7,p8,p9,p10,p11,p12,p13⟩:=HM.rules;have hN:w1.heap.size<wr.heap.size:=J5 (HM.row 0 (by decide)).1;have hM:=HM.far
    have g3:4<wr.heap.size:=by omega
    have g0:w.heap.size<wr.heap.size:=by omega
    have ck:wr.cell? ⟨4,k,none⟩=some (.int .u64 (K k)):=(HM.old.cell (p:=⟨4,k,none⟩) h3).trans (hcub k (by omega))
    have wk:wr.cell? ⟨w1.heap.size,k,none⟩=some (.int .u32 (W k)):=by have:=(HM.row k (by omega)).1;rw [Nat.zero_add] at this;exact this
    have hS:∀ w':World,Below wr.heap.size wr w'→∀ b o,b<wr.heap.size→w'.cell? ⟨b,o,none⟩=wr.cell? ⟨b,o,none⟩:=fun w' h b o hb=>h.cell (p:=⟨b,o,none⟩) hb
    have hb0:Below wr.heap.size wr wr.drew:=(Below.refl _ _).drew;have hxe:=hx.e;have hxa:=hx.a;have hKk:=hK k
    have k80:k<80:=by omega
    have ki:(0:Int)≤(k:Int)∧(k:Int)<80:=by omega
    clear hcub;go_wp2
    go_region_held3 (fun w'=>Below wr.heap.size wr w') (assumption) (first
     | (go_at_call 224;refine (jt _ _ _ _ hxe (by decide) (by decide) (by decide) _).mono ?_;rintro e w' ⟨rfl,hb⟩;have hbn:=aa (W:=wr) (by assumption) hb)
     | (go_at_call 184;refine (jG _ hKk _).mono ?_;rintro e w' ⟨rfl,hb⟩;have hbn:=aa (W:=wr) (by assumption) hb))
    clear ck wk hS hb0 hKk;have q8:w'.cell? ⟨w.heap.size,8,none⟩=some (.int .u64 2):=(hbn.cell (p:=⟨w.heap.size,8,none⟩) g0).trans p8;have q9:w'.cell? ⟨w.heap.size,9,none⟩=some (.int .u64 13):=(hbn.cell (p:=⟨w.heap.size,9,none⟩) g0).trans p9;have q10:w'.cell? ⟨w.heap.size,10,none⟩=some (.int .u64 22):=(hbn.cell (p:=⟨w.heap.size,10,none⟩) g0).trans p10;clear p0 p1 p2 p3 p4 p5 p6 p7 p8 p9 p10 p11 p12 p13;go_wp2_with (go_at_call 224;refine (jt _ _ _ _ hxa (by decide) (by decide) (by decide) _).mono ?_;rintro e w5 ⟨rfl,hb5⟩;have hbn5:=aa (W:=wr) hbn hb5;clear q8 q9 q10);go_roundw
    case rel =>
     have hx':aO rn K W s (k+1)=rj rn (K k / 2 ^ (64 - 32)) (W k) x:=by rw [HX.out];rfl
     have e1:=I6 x hx (K k / 2 ^ (64 - 32)) (W k) ((K k:Int) / 4294967296) (by simp);have e2:=IB x hx;refine ⟨k+1,hlt,by go_num,?_⟩;rw [hx']
     try simp only [IntKind.wrap_u32']
     rw [e1,e2];exact ⟨rfl,rfl,rfl,rfl,rfl,rfl,rfl,rfl,HM.below hbn5⟩
    case measure=>simp [intOf];omega
  · have hke:k=64:=by omega
    subst hke
    obtain ⟨x,hxe⟩:∃ x,x=aO rn K W s 64:=⟨_,rfl⟩
    have HX:Hid (x=aO rn K W s 64):=hxe;rw [←hxe];clear hxe;obtain ⟨q0,q1,q2,q3,q4,q5,q6,q7⟩:=HM.state.st;have ht:wr.there (w.heap.size+1+1) 0 8:=HM.res.there;clear hcub;go_wp2_with (refine J2 rfl 151 _ _ rfl _ 0 _ rfl rfl ht (by kernel_rfl) (by simp [Value.oneCell']) ?_)
    have hbl:aU rn K bs s=xE rn s x:=by rw [HX.out,HW.out];rfl
    refine bodyPost_ret (ai Tryz.results186 _ _ (w.heap.size+1+1) 0 _ _ rfl (World.rangeAt_setCells_same _ _ _ _ ht) Tryz.underlying151 rfl (by kernel_rfl)) rfl ⟨?_,ac (by omega) _ _ _ HM.old⟩;rw [hbl];rfl
def aZ (w1:World) (B:Nat):Prop:=w1.cell? ⟨B,0,none⟩=some (.int .i64 64)∧w1.cell? ⟨B,1,none⟩=some (.int .i64 80)∧w1.cell? ⟨B,2,none⟩=some (.int .u64 1)∧w1.cell? ⟨B,3,none⟩=some (.int .u64 8)∧w1.cell? ⟨B,4,none⟩=some (.int .u64 7)∧w1.cell? ⟨B,5,none⟩=some (.int .u64 19)∧w1.cell? ⟨B,6,none⟩=some (.int .u64 61)∧w1.cell? ⟨B,7,none⟩=some (.int .u64 6)∧w1.cell? ⟨B,8,none⟩=some (.int .u64 28)∧w1.cell? ⟨B,9,none⟩=some (.int .u64 34)∧w1.cell? ⟨B,10,none⟩=some (.int .u64 39)∧w1.cell? ⟨B,11,none⟩=some (.int .u64 14)∧w1.cell? ⟨B,12,none⟩=some (.int .u64 18)∧w1.cell? ⟨B,13,none⟩=some (.int .u64 41)
theorem aZ.below {w1 w2:World} {B n:Nat} (h:aZ w1 B) (hb:Below n w1 w2) (hB:B<n):aZ w2 B:=by
 have hc:∀ j,w2.cell? ⟨B,j,none⟩=w1.cell? ⟨B,j,none⟩:=fun j=>hb.cell (p:=⟨B,j,none⟩) hB
 unfold aZ at *;simp only [hc];exact h
theorem aZ.of_box {W w1:World} (h:Below (W.heap.size+1) (W.alloc (.cells #[.int .i64 64,.int .i64 80,.int .u64 1,.int .u64 8,.int .u64 7,.int .u64 19,.int .u64 61,.int .u64 6,.int .u64 28,.int .u64 34,.int .u64 39,.int .u64 14,.int .u64 18,.int .u64 41] 158)) w1):aZ w1 W.heap.size:=ol h _ rfl
theorem HG (e:Nat) (he:e<18446744073709551616):bits .xor .u64 IntKind.u64.max e=((2 ^ 64 - 1 - e:Nat):Int):=by
 have h1:IntKind.u64.max=((18446744073709551615:Nat):Int):=rfl;rw [h1,u64_xor_nat _ _ (by decide) he];have h2:=congrArg BitVec.toNat (BitVec.not_def (x:=BitVec.ofNat 64 e));rw [BitVec.toNat_not,BitVec.toNat_xor,BitVec.toNat_allOnes,BitVec.toNat_ofNat,Nat.mod_eq_of_lt he] at h2;rw [h2]
theorem FV (e f g:Nat) (he:e<18446744073709551616) (hf:f<18446744073709551616) (hg:g<18446744073709551616):bits .xor .u64 (bits .and .u64 e f) (bits .and .u64 (bits .xor .u64 IntKind.u64.max e) g)=((Be 64 e f g:Nat):Int):=by
 rw [HG e he,u64_and_nat _ _ he hf,u64_and_nat _ _ (Nat.lt_of_le_of_lt (Nat.sub_le _ _) (by decide)) hg,u64_xor_nat _ _ (Nat.and_lt_two_pow (n:=64) _ hf) (Nat.and_lt_two_pow (n:=64) _ hg)];rfl
theorem CX (a b c:Nat) (ha:a<18446744073709551616) (hb:b<18446744073709551616) (hc:c<18446744073709551616):bits .xor .u64 (bits .xor .u64 (bits .and .u64 a b) (bits .and .u64 a c)) (bits .and .u64 b c)=((Bg a b c:Nat):Int):=by
 rw [u64_and_nat _ _ ha hb,u64_and_nat _ _ ha hc,u64_and_nat _ _ hb hc,u64_xor_nat _ _ (Nat.and_lt_two_pow (n:=64) _ hb) (Nat.and_lt_two_pow (n:=64) _ hc),u64_xor_nat _ _ (Nat.xor_lt_two_pow (n:=64) (Nat.and_lt_two_pow (n:=64) _ hb) (Nat.and_lt_two_pow (n:=64) _ hc)) (Nat.and_lt_two_pow (n:=64) _ hc)];rfl
theorem Jg (x:St) (hx:x.lt 18446744073709551616) (kk wt:Nat) (ki:Int) (hki:ki=(kk:Int)):((((((x.h:Int)+wD 64 x.e (14,18,41))%18446744073709551616+bits .xor .u64 (bits .and .u64 x.e x.f) (bits .and .u64 (bits .xor .u64 IntKind.u64.max x.e) x.g))%18446744073709551616+ki)%18446744073709551616+wt)%18446744073709551616)=((I4 aA kk wt x:Nat):Int):=by
 rw [FV _ _ _ hx.e hx.f hx.g,hki];show _=(((x.h+wD 64 x.e (14,18,41)+Be 64 x.e x.f x.g+kk+wt)%18446744073709551616:Nat):Int);generalize wD 64 x.e (14,18,41)=A;generalize Be 64 x.e x.f x.g=B;omega
theorem Jd (x:St) (hx:x.lt 18446744073709551616):((wD 64 x.a (28,34,39):Int)+bits .xor .u64 (bits .xor .u64 (bits .and .u64 x.a x.b) (bits .and .u64 x.a x.c)) (bits .and .u64 x.b x.c))%18446744073709551616=((Jj aA x:Nat):Int):=by
 rw [CX _ _ _ hx.a hx.b hx.c];rfl
theorem nF (a b:Nat):((a:Int)+b)%18446744073709551616=(((a+b)%2 ^ 64:Nat):Int):=rfl
structure la (w w2:World) (s:St) (W:Nat→Nat) (N:Nat):Prop where
 rules:aZ w2 w.heap.size
 state:ah .u64 w2 (w.heap.size+1) 0 8 s.at
 res:ah .u64 w2 (w.heap.size+1+1) 0 8 (fun _=>0)
 row:ah .u64 w2 N 0 80 W
 old:Below w.heap.size w w2
 far:w.heap.size+1+1<N
theorem la.below {w w2 w3:World} {s:St} {W:Nat→Nat} {N:Nat} (h:la w w2 s W N) (hb:Below w2.heap.size w2 w3):la w w3 s W N:=by
 have hN:N<w2.heap.size:=J5 (h.row 0 (by decide)).1;have:=h.far;exact ⟨h.rules.below hb (by omega),h.state.below hb (by omega),h.res.below hb (by omega),h.row.below hb hN,h.old.trans (hb.mono h.old.size),h.far⟩
theorem Fb {w w1:World} {s:St} {W:Nat→Nat} (h:Below (((w.alloc (.cells #[.int .i64 64,.int .i64 80,.int .u64 1,.int .u64 8,.int .u64 7,.int .u64 19,.int .u64 61,.int .u64 6,.int .u64 28,.int .u64 34,.int .u64 39,.int .u64 14,.int .u64 18,.int .u64 41] 158)).alloc (.cells #[.int .u64 s.a,.int .u64 s.b,.int .u64 s.c,.int .u64 s.d,.int .u64 s.e,.int .u64 s.f,.int .u64 s.g,.int .u64 s.h] 172)).alloc (.cells #[.int .u64 0,.int .u64 0,.int .u64 0,.int .u64 0,.int .u64 0,.int .u64 0,.int .u64 0,.int .u64 0] 172)).heap.size (((w.alloc (.cells #[.int .i64 64,.int .i64 80,.int .u64 1,.int .u64 8,.int .u64 7,.int .u64 19,.int .u64 61,.int .u64 6,.int .u64 28,.int .u64 34,.int .u64 39,.int .u64 14,.int .u64 18,.int .u64 41] 158)).alloc (.cells #[.int .u64 s.a,.int .u64 s.b,.int .u64 s.c,.int .u64 s.d,.int .u64 s.e,.int .u64 s.f,.int .u64 s.g,.int .u64 s.h] 172)).alloc (.cells #[.int .u64 0,.int .u64 0,.int .u64 0,.int .u64 0,.int .u64 0,.int .u64 0,.int .u64 0,.int .u64 0] 172)) w1) :
 la w ((w1.alloc (.cells pW 250)).setCells w1.heap.size 0 (au .u64 80 W)) s W w1.heap.size:=by
 have hz:=h.size;simp only [World.size_alloc] at hz h;have g1:Below (w.heap.size+1) (w.alloc (.cells #[.int .i64 64,.int .i64 80,.int .u64 1,.int .u64 8,.int .u64 7,.int .u64 19,.int .u64 61,.int .u64 6,.int .u64 28,.int .u64 34,.int .u64 39,.int .u64 14,.int .u64 18,.int .u64 41] 158)) w1:=(((Below.refl _ _).alloc (by simp) _).alloc (by simp) _).trans (h.mono (by omega))
 have g2:ah .u64 w1 (w.heap.size+1) 0 8 s.at:=by
  have a0:ah .u64 ((w.alloc (.cells #[.int .i64 64,.int .i64 80,.int .u64 1,.int .u64 8,.int .u64 7,.int .u64 19,.int .u64 61,.int .u64 6,.int .u64 28,.int .u64 34,.int .u64 39,.int .u64 14,.int .u64 18,.int .u64 41] 158)).alloc (.cells #[.int .u64 s.a,.int .u64 s.b,.int .u64 s.c,.int .u64 s.d,.int .u64 s.e,.int .u64 s.f,.int .u64 s.g,.int .u64 s.h] 172)) (w.heap.size+1) 0 8 s.at:=by
   have:=ah.fresh (K := .u64) (w:=w.alloc (.cells #[.int .i64 64,.int .i64 80,.int .u64 1,.int .u64 8,.int .u64 7,.int .u64 19,.int .u64 61,.int .u64 6,.int .u64 28,.int .u64 34,.int .u64 39,.int .u64 14,.int .u64 18,.int .u64 41] 158)) (cs:=#[.int .u64 s.a,.int .u64 s.b,.int .u64 s.c,.int .u64 s.d,.int .u64 s.e,.int .u64 s.f,.int .u64 s.g,.int .u64 s.h]) (t:=172) (n:=8) (X:=s.at) (fun j hj=>by
    match j,hj with
    | 0,_=>rfl
    | 1,_=>rfl
    | 2,_=>rfl
    | 3,_=>rfl
    | 4,_=>rfl
    | 5,_=>rfl
    | 6,_=>rfl
    | 7,_=>rfl)
   simpa using this
  exact (a0.alloc (by simp) _).below h (by omega)
 have g3:ah .u64 w1 (w.heap.size+1+1) 0 8 (fun _=>0):=by
  have a0:ah .u64 (((w.alloc (.cells #[.int .i64 64,.int .i64 80,.int .u64 1,.int .u64 8,.int .u64 7,.int .u64 19,.int .u64 61,.int .u64 6,.int .u64 28,.int .u64 34,.int .u64 39,.int .u64 14,.int .u64 18,.int .u64 41] 158)).alloc (.cells #[.int .u64 s.a,.int .u64 s.b,.int .u64 s.c,.int .u64 s.d,.int .u64 s.e,.int .u64 s.f,.int .u64 s.g,.int .u64 s.h] 172)).alloc (.cells #[.int .u64 0,.int .u64 0,.int .u64 0,.int .u64 0,.int .u64 0,.int .u64 0,.int .u64 0,.int .u64 0] 172)) (w.heap.size+1+1) 0 8 (fun _=>0):=by
   have:=ah.fresh (K := .u64) (w:=(w.alloc (.cells #[.int .i64 64,.int .i64 80,.int .u64 1,.int .u64 8,.int .u64 7,.int .u64 19,.int .u64 61,.int .u64 6,.int .u64 28,.int .u64 34,.int .u64 39,.int .u64 14,.int .u64 18,.int .u64 41] 158)).alloc (.cells #[.int .u64 s.a,.int .u64 s.b,.int .u64 s.c,.int .u64 s.d,.int .u64 s.e,.int .u64 s.f,.int .u64 s.g,.int .u64 s.h] 172)) (cs:=#[.int .u64 0,.int .u64 0,.int .u64 0,.int .u64 0,.int .u64 0,.int .u64 0,.int .u64 0,.int .u64 0]) (t:=172) (n:=8) (X:=fun _=>0) (fun j hj=>by
    match j,hj with
    | 0,_=>rfl
    | 1,_=>rfl
    | 2,_=>rfl
    | 3,_=>rfl
    | 4,_=>rfl
    | 5,_=>rfl
    | 6,_=>rfl
    | 7,_=>rfl)
   simpa using this
  exact a0.below h (by omega)
 have hnew:ah .u64 (w1.alloc (.cells pW 250)) w1.heap.size 0 80 (fun _=>0):=ah.fresh (fun j hj=>nn j hj);have hb2:Below w1.heap.size w1 ((w1.alloc (.cells pW 250)).setCells w1.heap.size 0 (au .u64 80 W)):=ac (JW _) _ _ _ ((Below.refl _ _).alloc (JW _) _);have ho:Below w.heap.size w w1:=((((Below.refl _ _).alloc (JW _) _).alloc (by simp) _).alloc (by simp only [World.size_alloc];omega) _).trans (h.mono (by omega));refine ⟨(aZ.of_box g1).below hb2 (by omega),g2.below hb2 (by omega),g3.below hb2 (by omega),fun j hj=>⟨?_,?_⟩,ho.trans (hb2.mono (by omega)),by omega⟩
 · exact World.rangeAt_setCells_same _ _ _ _ (by rw [ak];exact hnew.there) j _ (bo _ _ _ j hj)
 · rw [World.frozen?_setCells];exact (hnew j hj).2
set_option maxRecDepth 20000 in
set_option maxHeartbeats 1000000 in
theorem mg (K:Nat→Nat) (hK:∀ j,K j<18446744073709551616) (s:St) (hs:s.lt 18446744073709551616) (bb ob cap:Nat) (bs:Nat→Nat) (hbs:∀ j,bs j<256) (w:World)
 (hcub:∀ j,j<80→w.cell? ⟨4,j,none⟩=some (.int .u64 (K j))) (hcell:∀ j,j<128→w.cell? ⟨bb,ob+j,none⟩=some (.int .u8 (bs j))) :
 Calls Tryz.prog 206 #[(.agg #[.int .i64 64,.int .i64 80,.int .u64 1,.int .u64 8,.int .u64 7,.int .u64 19,.int .u64 61,.int .u64 6,.int .u64 28,.int .u64 34,.int .u64 39,.int .u64 14,.int .u64 18,.int .u64 41]),.agg #[.int .u64 s.a,.int .u64 s.b,.int .u64 s.c,.int .u64 s.d,.int .u64 s.e,.int .u64 s.f,.int .u64 s.g,.int .u64 s.h],.slice (some ⟨bb,ob,none⟩) 128 cap] w
  fun e w'=>e = .returned (.agg (St.vals .u64 (aU aA K bs s)))∧Below w.heap.size w w':=by
 have hz:=yl;have hbb:bb<w.heap.size:=J5 (hcell 0 (by decide));have h3:4<w.heap.size:=J5 (hcub 0 (by decide))
 have hcell':∀ j,j<128→(((w.alloc (.cells #[.int .i64 64,.int .i64 80,.int .u64 1,.int .u64 8,.int .u64 7,.int .u64 19,.int .u64 61,.int .u64 6,.int .u64 28,.int .u64 34,.int .u64 39,.int .u64 14,.int .u64 18,.int .u64 41] 158)).alloc (.cells #[.int .u64 s.a,.int .u64 s.b,.int .u64 s.c,.int .u64 s.d,.int .u64 s.e,.int .u64 s.f,.int .u64 s.g,.int .u64 s.h] 172)).alloc (.cells #[.int .u64 0,.int .u64 0,.int .u64 0,.int .u64 0,.int .u64 0,.int .u64 0,.int .u64 0,.int .u64 0] 172)).cell? ⟨bb,ob+j,none⟩=some (.int .u8 (bs j)):=fun j hj=>by
  rw [World.cell?_alloc_lt _ _ _ (by simp;omega),World.cell?_alloc_lt _ _ _ (by simp;omega),World.cell?_alloc_lt _ _ _ hbb];exact hcell j hj
 have hW:∀ j,eo aA (fill 64 8 bs 128) (80 - 16) j<18446744073709551616:=gY (r:=aA) (kj (fun j=>Nat.lt_of_lt_of_le (hbs j) (by decide)) 128) _
 obtain ⟨W,hW'⟩:∃ W,W=eo aA (fill 64 8 bs 128) (80 - 16):=⟨_,rfl⟩
 have HW:Hid (W=eo aA (fill 64 8 bs 128) (80 - 16)):=hW';have hsp:=sm bb ob cap bs hbs (((w.alloc (.cells #[.int .i64 64,.int .i64 80,.int .u64 1,.int .u64 8,.int .u64 7,.int .u64 19,.int .u64 61,.int .u64 6,.int .u64 28,.int .u64 34,.int .u64 39,.int .u64 14,.int .u64 18,.int .u64 41] 158)).alloc (.cells #[.int .u64 s.a,.int .u64 s.b,.int .u64 s.c,.int .u64 s.d,.int .u64 s.e,.int .u64 s.f,.int .u64 s.g,.int .u64 s.h] 172)).alloc (.cells #[.int .u64 0,.int .u64 0,.int .u64 0,.int .u64 0,.int .u64 0,.int .u64 0,.int .u64 0,.int .u64 0] 172)) hcell';rw [←hW'] at hW hsp;clear hW' hcell hcell'
 have hi:(Tryz.prog.info? 250).map (·.size)=some (au .u64 80 W).toArray.size:=by simp only [List.size_toArray,ak];kernel_rfl
 have hone:=all_oneCell_toArray (bW .u64 80 W);go_enter Tryz.func206,Tryz.ntmps206
 go_wp2_with (first
  | (go_at_call 243;refine hsp.mono ?_;clear hsp;rintro e w1 ⟨rfl,hb1⟩;have HM:=Fb (W:=W) hb1;have ht:(w1.alloc (.cells pW 250)).there w1.heap.size 0 (au .u64 80 W).toArray.size:=(by simp only [List.size_toArray,ak];exact (ah.fresh (K := .u64) (X:=fun _=>0) (fun j hj=>nn j hj)).there);clear hb1)
  | (refine J2 rfl 250 _ _ rfl _ 0 _ rfl rfl ht hi hone ?_;rw [List.toList_toArray];obtain ⟨w2,hw2⟩:∃ w2,w2=(w1.alloc (.cells pW 250)).setCells w1.heap.size 0 (au .u64 80 W):=⟨_,rfl⟩;rw [←hw2] at HM ⊢;clear hw2 ht hi hone hz;have p0:=HM.rules.1;have p1:=HM.rules.2.1;obtain ⟨q0,q1,q2,q3,q4,q5,q6,q7⟩:=HM.state.st))
 go_quiet (fail);go_wp2;clear p0 p1 q0 q1 q2 q3 q4 q5 q6 q7;go_loopw [9,10,11,12,13,14,15,16,44] (fun a b c d e f g h i wr=>∃ k:Nat,k≤80∧i = .int .i64 k∧a = .int .u64 (aO aA K W s k).a∧b = .int .u64 (aO aA K W s k).b∧c = .int .u64 (aO aA K W s k).c∧d = .int .u64 (aO aA K W s k).d∧e = .int .u64 (aO aA K W s k).e∧f = .int .u64 (aO aA K W s k).f∧g = .int .u64 (aO aA K W s k).g∧h = .int .u64 (aO aA K W s k).h∧la w wr s W w1.heap.size) (fun _ _ _ _ _ _ _ _ i _=>80 - (intOf i).toNat)
 case atStart=>exact ⟨0,Nat.zero_le _,rfl,rfl,rfl,rfl,rfl,rfl,rfl,rfl,rfl,HM.below (bU (Below.refl _ _) _)⟩
 case round =>
  clear HM;obtain ⟨k,hk,rfl,rfl,rfl,rfl,rfl,rfl,rfl,rfl,rfl,HM⟩:=hrel
  by_cases hlt:k<80
  · have hx:(aO aA K W s k).lt 18446744073709551616:=ig (r:=aA) hs k
    obtain ⟨x,hxe⟩:∃ x,x=aO aA K W s k:=⟨_,rfl⟩
    have HX:Hid (x=aO aA K W s k):=hxe;rw [←hxe] at hx ⊢;clear hxe;obtain ⟨p0,p1,p2,p3,p4,p5,p6,p7,p8,p9,p10,p11,p12,p13⟩:=HM.rules;have hN:w1.heap.size<wr.heap.size:=J5 (HM.row 0 (by decide)).1;have hM:=HM.far
    have g3:4<wr.heap.size:=by omega
    have g0:w.heap.size<wr.heap.size:=by omega
    have ck:wr.cell? ⟨4,k,none⟩=some (.int .u64 (K k)):=(HM.old.cell (p:=⟨4,k,none⟩) h3).trans (hcub k (by omega))
    have wk:wr.cell? ⟨w1.heap.size,k,none⟩=some (.int .u64 (W k)):=by have:=(HM.row k (by omega)).1;rw [Nat.zero_add] at this;exact this
    have hS:∀ w':World,Below wr.heap.size wr w'→∀ b o,b<wr.heap.size→w'.cell? ⟨b,o,none⟩=wr.cell? ⟨b,o,none⟩:=fun w' h b o hb=>h.cell (p:=⟨b,o,none⟩) hb
    have hb0:Below wr.heap.size wr wr.drew:=(Below.refl _ _).drew;have hxe:=hx.e;have hxa:=hx.a;have hKk:=hK k
    have k80:k<80:=by omega
    have ki:(0:Int)≤(k:Int)∧(k:Int)<80:=by omega
    clear hcub;go_wp2
    go_region_held3 (fun w'=>Below wr.heap.size wr w') (assumption) (first
     | (go_at_call 244;refine (jE _ _ _ _ hxe (by decide) (by decide) (by decide) _).mono ?_;rintro e w' ⟨rfl,hb⟩;have hbn:=aa (W:=wr) (by assumption) hb)
     | (go_at_call 205;refine (jA _ hKk _).mono ?_;rintro e w' ⟨rfl,hb⟩;have hbn:=aa (W:=wr) (by assumption) hb))
    clear ck wk hS hb0 hKk;have q8:w'.cell? ⟨w.heap.size,8,none⟩=some (.int .u64 28):=(hbn.cell (p:=⟨w.heap.size,8,none⟩) g0).trans p8;have q9:w'.cell? ⟨w.heap.size,9,none⟩=some (.int .u64 34):=(hbn.cell (p:=⟨w.heap.size,9,none⟩) g0).trans p9;have q10:w'.cell? ⟨w.heap.size,10,none⟩=some (.int .u64 39):=(hbn.cell (p:=⟨w.heap.size,10,none⟩) g0).trans p10;clear p0 p1 p2 p3 p4 p5 p6 p7 p8 p9 p10 p11 p12 p13;go_wp2_with (go_at_call 244;refine (jE _ _ _ _ hxa (by decide) (by decide) (by decide) _).mono ?_;rintro e w5 ⟨rfl,hb5⟩;have hbn5:=aa (W:=wr) hbn hb5;clear q8 q9 q10);go_roundw
    case rel =>
     have hx':aO aA K W s (k+1)=rj aA (K k / 2 ^ (64 - 64)) (W k) x:=by rw [HX.out];rfl
     have e1:=Jg x hx (K k / 2 ^ (64 - 64)) (W k) (K k:Int) (by simp);have e2:=Jd x hx;refine ⟨k+1,hlt,by go_num,?_⟩;rw [hx']
     try simp only [IntKind.wrap_u64]
     rw [e1,e2];exact ⟨rfl,rfl,rfl,rfl,rfl,rfl,rfl,rfl,HM.below hbn5⟩
    case measure=>simp [intOf];omega
  · have hke:k=80:=by omega
    subst hke
    obtain ⟨x,hxe⟩:∃ x,x=aO aA K W s 80:=⟨_,rfl⟩
    have HX:Hid (x=aO aA K W s 80):=hxe;rw [←hxe];clear hxe;obtain ⟨q0,q1,q2,q3,q4,q5,q6,q7⟩:=HM.state.st;have ht:wr.there (w.heap.size+1+1) 0 8:=HM.res.there;clear hcub;go_wp2_with (refine J2 rfl 172 _ _ rfl _ 0 _ rfl rfl ht (by kernel_rfl) (by simp [Value.oneCell']) ?_)
    have hbl:aU aA K bs s=xE aA s x:=by rw [HX.out,HW.out];rfl
    refine bodyPost_ret (ai Tryz.results206 _ _ (w.heap.size+1+1) 0 _ _ rfl (World.rangeAt_setCells_same _ _ _ _ ht) Tryz.underlying172 rfl (by kernel_rfl)) rfl ⟨?_,ac (by omega) _ _ _ HM.old⟩;rw [hbl];rfl
structure az (K:IntKind) (w:World) (b o:Nat) (s:St) (R:Nat→Nat) (c:Nat):Prop where
 st:ah K w b o 8 s.at
 rest:ah .u8 w b (o+8) 128 R
 cnt:w.cell? ⟨b,o+136,none⟩=some (.int .i64 c)
 cntf:w.frozen? ⟨b,o+136,none⟩=false
theorem az.below {K:IntKind} {w w':World} {b o:Nat} {s:St} {R:Nat→Nat} {c:Nat} (h:az K w b o s R c) (hb:Below w.heap.size w w'):az K w' b o s R c:=by
 have hl:b<w.heap.size:=J5 h.cnt;exact ⟨h.st.below hb hl,h.rest.below hb hl,(hb.cell (p:=⟨b,o+136,none⟩) hl).trans h.cnt,(hb.frozen (p:=⟨b,o+136,none⟩) hl).trans h.cntf⟩
theorem az.count {K:IntKind} {w:World} {b o:Nat} {s:St} {R:Nat→Nat} {c:Nat} (h:az K w b o s R c) {v:Int} {c':Nat} (hv:v=(c':Int)):az K (w.setCell ⟨b,o+136,none⟩ (.int .i64 v)) b o s R c':=by
 refine ⟨h.st.apart (o+136) [.int .i64 v] (.inl (by omega)),h.rest.apart (o+136) [.int .i64 v] (.inl (by omega)),?_,by rw [World.frozen?_setCell];exact h.cntf⟩;rw [World.cell?_setCell_same _ _ _ h.cnt,hv]
theorem az.bytes {K:IntKind} {w:World} {b o:Nat} {s:St} {R:Nat→Nat} {c:Nat} (h:az K w b o s R c) (i n:Nat) (Y:Nat→Nat) (hi:i+n≤128):az K (w.setCells b (o+8+i) (au .u8 n Y)) b o s (over R i n Y) c:=by
 refine ⟨h.st.apart _ _ (.inl (by omega)),h.rest.splice i n Y hi,?_,by rw [World.frozen?_setCells];exact h.cntf⟩;rw [World.cell?_setCells_out b _ _ w _ (fun _ _=>by rw [ak];show o+136<o+8+i∨o+8+i+n≤o+136;omega)];exact h.cnt
theorem eH (K:IntKind) (s:St):(St.vals K s).toList=au K 8 s.at:=rfl
theorem az.state {K:IntKind} {w:World} {b o:Nat} {s:St} {R:Nat→Nat} {c:Nat} (h:az K w b o s R c) (s':St):az K (w.setCells b o (St.vals K s').toList) b o s' R c:=by
 have e:over s.at 0 8 s'.at=over s.at 0 8 s'.at:=rfl;have h1:=h.st.splice 0 8 s'.at (by decide);rw [Nat.add_zero] at h1;rw [eH];refine ⟨fun j hj => ?_,h.rest.apart _ _ (.inr (by rw [ak];omega)),?_,by rw [World.frozen?_setCells];exact h.cntf⟩
 · have:=h1 j hj
   have e2:over s.at 0 8 s'.at j=s'.at j:=by simp [over,hj]
   rw [e2] at this;exact this
 · rw [World.cell?_setCells_out b _ _ w _ (fun _ _=>by rw [ak];show o+136<o∨o+8≤o+136;omega)]
   exact h.cnt
def aX (r:Ru) (K:Nat→Nat) (s:St) (bs:Nat→Nat):Nat→St
 | 0=>s
 | i+1=>aU r K (fun j=>bs (i*(2*r.m)+j)) (aX r K s bs i)
theorem gF {r:Ru} {K:Nat→Nat} {s:St} {bs:Nat→Nat} (h:s.lt (2 ^ r.m)):∀ i,(aX r K s bs i).lt (2 ^ r.m)
 | 0=>h
 | _+1=>nE
def dZ (r:Ru) (K:Nat→Nat) (s:St) (R:Nat→Nat) (n:Nat) (bs:Nat→Nat):St × (Nat→Nat) :=
 (aX r K s bs (n / (2*r.m)),over R 0 (n%(2*r.m)) (fun j=>bs (n / (2*r.m)*(2*r.m)+j)))
def a6 (r:Ru) (K:Nat→Nat) (s:St) (R:Nat→Nat) (c n:Nat) (bs:Nat→Nat):St × (Nat→Nat) :=
 if c%(2*r.m)=0 then dZ r K s R n bs
 else if c%(2*r.m)+n<2*r.m then (s,over R (c%(2*r.m)) n bs)
 else dZ r K (aU r K (over R (c%(2*r.m)) (2*r.m - c%(2*r.m)) bs) s) (over R (c%(2*r.m)) (2*r.m - c%(2*r.m)) bs) (n - (2*r.m - c%(2*r.m))) (fun j=>bs (2*r.m - c%(2*r.m)+j))
end Go.Proofs.YtibdhadbflfdpaaGreatDoor
