/- What the proof stands on: HMix, HEng, HStart, HHash. -/
import Derived.Test.YtcgkajlehdgpoaaGreatDoorLentM
namespace Go.Proofs.YtcgkajlehdgpoaaGreatDoor
open Go.RowKit
structure St where
 a:Nat
 b:Nat
 c:Nat
 d:Nat
 e:Nat
 f:Nat
 g:Nat
 h:Nat
def chS (m e f g:Nat):Nat:=(e &&& f) ^^^ ((2 ^ m - 1 - e) &&& g)
def majS (a b c:Nat):Nat:=(a &&& b) ^^^ (a &&& c) ^^^ (b &&& c)
def t1S (r:Ru) (kt wt:Nat) (s:St):Nat:=(s.h+hi3 r.m s.e r.l1+chS r.m s.e s.f s.g+kt+wt)%2 ^ r.m
def t2S (r:Ru) (s:St):Nat:=(hi3 r.m s.a r.l0+majS s.a s.b s.c)%2 ^ r.m
def stepS (r:Ru) (kt wt:Nat) (s:St):St:=⟨(t1S r kt wt s+t2S r s)%2 ^ r.m,s.a,s.b,s.c,(s.d+t1S r kt wt s)%2 ^ r.m,s.e,s.f,s.g⟩
def roundsS (r:Ru) (K W:Nat→Nat) (s:St):Nat→St
 | 0=>s
 | t+1=>stepS r (K t / 2 ^ (64 - r.m)) (W t) (roundsS r K W s t)
def addS (r:Ru) (s x:St):St:=⟨(s.a+x.a)%2 ^ r.m,(s.b+x.b)%2 ^ r.m,(s.c+x.c)%2 ^ r.m,(s.d+x.d)%2 ^ r.m,(s.e+x.e)%2 ^ r.m,(s.f+x.f)%2 ^ r.m,(s.g+x.g)%2 ^ r.m,(s.h+x.h)%2 ^ r.m⟩
def blockS (r:Ru) (K:Nat→Nat) (bs:Nat→Nat) (s:St):St:=addS r s (roundsS r K (sch r (fill r.m (r.m / 8) bs (2*r.m)) (r.rounds - 16)) s r.rounds)
structure St.lt (p:Nat) (s:St):Prop where
 a:s.a<p
 b:s.b<p
 c:s.c<p
 d:s.d<p
 e:s.e<p
 f:s.f<p
 g:s.g<p
 h:s.h<p
theorem stepS_lt {r:Ru} {kt wt:Nat} {s:St} (h:s.lt (2 ^ r.m)):(stepS r kt wt s).lt (2 ^ r.m) :=
 ⟨Nat.mod_lt _ (Nat.two_pow_pos _),h.a,h.b,h.c,Nat.mod_lt _ (Nat.two_pow_pos _),h.e,h.f,h.g⟩
theorem roundsS_lt {r:Ru} {K W:Nat→Nat} {s:St} (h:s.lt (2 ^ r.m)):∀ t,(roundsS r K W s t).lt (2 ^ r.m)
 | 0=>h
 | t+1=>stepS_lt (roundsS_lt h t)
theorem addS_lt {r:Ru} {s x:St}:(addS r s x).lt (2 ^ r.m):=by constructor <;> exact Nat.mod_lt _ (Nat.two_pow_pos _)
def St.at (s:St):Nat→Nat
 | 0=>s.a
 | 1=>s.b
 | 2=>s.c
 | 3=>s.d
 | 4=>s.e
 | 5=>s.f
 | 6=>s.g
 | _=>s.h
def St.vals (K:IntKind) (s:St):Array Value:=#[.int K s.a,.int K s.b,.int K s.c,.int K s.d,.int K s.e,.int K s.f,.int K s.g,.int K s.h]
theorem RowAt.st {K:IntKind} {w:World} {b:Nat} {s:St} (h:RowAt K w b 0 8 s.at):w.cell? ⟨b,0,none⟩=some (.int K s.a)∧w.cell? ⟨b,1,none⟩=some (.int K s.b)∧w.cell? ⟨b,2,none⟩=some (.int K s.c)∧w.cell? ⟨b,3,none⟩=some (.int K s.d)∧w.cell? ⟨b,4,none⟩=some (.int K s.e)∧w.cell? ⟨b,5,none⟩=some (.int K s.f)∧w.cell? ⟨b,6,none⟩=some (.int K s.g)∧w.cell? ⟨b,7,none⟩=some (.int K s.h) :=
 ⟨(h 0 (by decide)).1,(h 1 (by decide)).1,(h 2 (by decide)).1,(h 3 (by decide)).1,(h 4 (by decide)).1,(h 5 (by decide)).1,(h 6 (by decide)).1,(h 7 (by decide)).1⟩
def Rules32 (w1:World) (B:Nat):Prop:=w1.cell? ⟨B,0,none⟩=some (.int .i64 32)∧w1.cell? ⟨B,1,none⟩=some (.int .i64 64)∧w1.cell? ⟨B,2,none⟩=some (.int .u64 7)∧w1.cell? ⟨B,3,none⟩=some (.int .u64 18)∧w1.cell? ⟨B,4,none⟩=some (.int .u64 3)∧w1.cell? ⟨B,5,none⟩=some (.int .u64 17)∧w1.cell? ⟨B,6,none⟩=some (.int .u64 19)∧w1.cell? ⟨B,7,none⟩=some (.int .u64 10)∧w1.cell? ⟨B,8,none⟩=some (.int .u64 2)∧w1.cell? ⟨B,9,none⟩=some (.int .u64 13)∧w1.cell? ⟨B,10,none⟩=some (.int .u64 22)∧w1.cell? ⟨B,11,none⟩=some (.int .u64 6)∧w1.cell? ⟨B,12,none⟩=some (.int .u64 11)∧w1.cell? ⟨B,13,none⟩=some (.int .u64 25)
theorem Rules32.below {w1 w2:World} {B n:Nat} (h:Rules32 w1 B) (hb:Below n w1 w2) (hB:B<n):Rules32 w2 B:=by
 have hc:∀ j,w2.cell? ⟨B,j,none⟩=w1.cell? ⟨B,j,none⟩:=fun j=>hb.cell (p:=⟨B,j,none⟩) hB
 unfold Rules32 at *
 simp only [hc]
 exact h
theorem Rules32.of_box {W w1:World} (h:Below (W.heap.size+1) (W.alloc (.cells #[.int .i64 32,.int .i64 64,.int .u64 7,.int .u64 18,.int .u64 3,.int .u64 17,.int .u64 19,.int .u64 10,.int .u64 2,.int .u64 13,.int .u64 22,.int .u64 6,.int .u64 11,.int .u64 25] 184)) w1):Rules32 w1 W.heap.size:=rbox32 h _ rfl
theorem not_32 (e:Nat) (he:e<4294967296):bits .xor .u32 IntKind.u32.max e=((2 ^ 32 - 1 - e:Nat):Int):=by
 have h1:IntKind.u32.max=((4294967295:Nat):Int):=rfl
 rw [h1,u32_xor_nat _ _ (by decide) he]
 have h2:=congrArg BitVec.toNat (BitVec.not_def (x:=BitVec.ofNat 32 e))
 rw [BitVec.toNat_not,BitVec.toNat_xor,BitVec.toNat_allOnes,BitVec.toNat_ofNat,Nat.mod_eq_of_lt he] at h2
 rw [h2]
theorem ch_32 (e f g:Nat) (he:e<4294967296) (hf:f<4294967296) (hg:g<4294967296):bits .xor .u32 (bits .and .u32 e f) (bits .and .u32 (bits .xor .u32 IntKind.u32.max e) g)=((chS 32 e f g:Nat):Int):=by
 rw [not_32 e he,u32_and_nat _ _ he hf,u32_and_nat _ _ (Nat.lt_of_le_of_lt (Nat.sub_le _ _) (by decide)) hg,u32_xor_nat _ _ (Nat.and_lt_two_pow (n:=32) _ hf) (Nat.and_lt_two_pow (n:=32) _ hg)]
 rfl
theorem maj_32 (a b c:Nat) (ha:a<4294967296) (hb:b<4294967296) (hc:c<4294967296):bits .xor .u32 (bits .xor .u32 (bits .and .u32 a b) (bits .and .u32 a c)) (bits .and .u32 b c)=((majS a b c:Nat):Int):=by
 rw [u32_and_nat _ _ ha hb,u32_and_nat _ _ ha hc,u32_and_nat _ _ hb hc,u32_xor_nat _ _ (Nat.and_lt_two_pow (n:=32) _ hb) (Nat.and_lt_two_pow (n:=32) _ hc),u32_xor_nat _ _ (Nat.xor_lt_two_pow (n:=32) (Nat.and_lt_two_pow (n:=32) _ hb) (Nat.and_lt_two_pow (n:=32) _ hc)) (Nat.and_lt_two_pow (n:=32) _ hc)]
 rfl
theorem t1_32 (x:St) (hx:x.lt 4294967296) (kk wt:Nat) (ki:Int) (hki:ki=(kk:Int)):((((((x.h:Int)+hi3 32 x.e (6,11,25))%4294967296+bits .xor .u32 (bits .and .u32 x.e x.f) (bits .and .u32 (bits .xor .u32 IntKind.u32.max x.e) x.g))%4294967296+ki)%4294967296+wt)%4294967296)=((t1S rn kk wt x:Nat):Int):=by
 rw [ch_32 _ _ _ hx.e hx.f hx.g,hki]
 show _=(((x.h+hi3 32 x.e (6,11,25)+chS 32 x.e x.f x.g+kk+wt)%4294967296:Nat):Int)
 generalize hi3 32 x.e (6,11,25)=A
 generalize chS 32 x.e x.f x.g=B
 omega
theorem t2_32 (x:St) (hx:x.lt 4294967296):((hi3 32 x.a (2,13,22):Int)+bits .xor .u32 (bits .xor .u32 (bits .and .u32 x.a x.b) (bits .and .u32 x.a x.c)) (bits .and .u32 x.b x.c))%4294967296=((t2S rn x:Nat):Int):=by
 rw [maj_32 _ _ _ hx.a hx.b hx.c]
 rfl
structure MixIn32 (w w2:World) (s:St) (W:Nat→Nat) (N:Nat):Prop where
 rules:Rules32 w2 w.heap.size
 state:RowAt .u32 w2 (w.heap.size+1) 0 8 s.at
 res:RowAt .u32 w2 (w.heap.size+1+1) 0 8 (fun _=>0)
 row:RowAt .u32 w2 N 0 80 W
 old:Below w.heap.size w w2
 far:w.heap.size+1+1<N
theorem MixIn32.below {w w2 w3:World} {s:St} {W:Nat→Nat} {N:Nat} (h:MixIn32 w w2 s W N) (hb:Below w2.heap.size w2 w3):MixIn32 w w3 s W N:=by
 have hN:N<w2.heap.size:=block_lt_of_cell (h.row 0 (by decide)).1
 have:=h.far
 exact ⟨h.rules.below hb (by omega),h.state.below hb (by omega),h.res.below hb (by omega),h.row.below hb hN,h.old.trans (hb.mono h.old.size),h.far⟩
theorem mixIn32 {w w1:World} {s:St} {W:Nat→Nat} (h:Below (((w.alloc (.cells #[.int .i64 32,.int .i64 64,.int .u64 7,.int .u64 18,.int .u64 3,.int .u64 17,.int .u64 19,.int .u64 10,.int .u64 2,.int .u64 13,.int .u64 22,.int .u64 6,.int .u64 11,.int .u64 25] 184)).alloc (.cells #[.int .u32 s.a,.int .u32 s.b,.int .u32 s.c,.int .u32 s.d,.int .u32 s.e,.int .u32 s.f,.int .u32 s.g,.int .u32 s.h] 177)).alloc (.cells #[.int .u32 0,.int .u32 0,.int .u32 0,.int .u32 0,.int .u32 0,.int .u32 0,.int .u32 0,.int .u32 0] 177)).heap.size (((w.alloc (.cells #[.int .i64 32,.int .i64 64,.int .u64 7,.int .u64 18,.int .u64 3,.int .u64 17,.int .u64 19,.int .u64 10,.int .u64 2,.int .u64 13,.int .u64 22,.int .u64 6,.int .u64 11,.int .u64 25] 184)).alloc (.cells #[.int .u32 s.a,.int .u32 s.b,.int .u32 s.c,.int .u32 s.d,.int .u32 s.e,.int .u32 s.f,.int .u32 s.g,.int .u32 s.h] 177)).alloc (.cells #[.int .u32 0,.int .u32 0,.int .u32 0,.int .u32 0,.int .u32 0,.int .u32 0,.int .u32 0,.int .u32 0] 177)) w1) :
 MixIn32 w ((w1.alloc (.cells zs32 221)).setCells w1.heap.size 0 (ints .u32 80 W)) s W w1.heap.size:=by
 have hz:=h.size
 simp only [World.size_alloc] at hz h
 have g1:Below (w.heap.size+1) (w.alloc (.cells #[.int .i64 32,.int .i64 64,.int .u64 7,.int .u64 18,.int .u64 3,.int .u64 17,.int .u64 19,.int .u64 10,.int .u64 2,.int .u64 13,.int .u64 22,.int .u64 6,.int .u64 11,.int .u64 25] 184)) w1:=(((Below.refl _ _).alloc (by simp) _).alloc (by simp) _).trans (h.mono (by omega))
 have g2:RowAt .u32 w1 (w.heap.size+1) 0 8 s.at:=by
  have a0:RowAt .u32 ((w.alloc (.cells #[.int .i64 32,.int .i64 64,.int .u64 7,.int .u64 18,.int .u64 3,.int .u64 17,.int .u64 19,.int .u64 10,.int .u64 2,.int .u64 13,.int .u64 22,.int .u64 6,.int .u64 11,.int .u64 25] 184)).alloc (.cells #[.int .u32 s.a,.int .u32 s.b,.int .u32 s.c,.int .u32 s.d,.int .u32 s.e,.int .u32 s.f,.int .u32 s.g,.int .u32 s.h] 177)) (w.heap.size+1) 0 8 s.at:=by
   have:=RowAt.fresh (K := .u32) (w:=w.alloc (.cells #[.int .i64 32,.int .i64 64,.int .u64 7,.int .u64 18,.int .u64 3,.int .u64 17,.int .u64 19,.int .u64 10,.int .u64 2,.int .u64 13,.int .u64 22,.int .u64 6,.int .u64 11,.int .u64 25] 184)) (cs:=#[.int .u32 s.a,.int .u32 s.b,.int .u32 s.c,.int .u32 s.d,.int .u32 s.e,.int .u32 s.f,.int .u32 s.g,.int .u32 s.h]) (t:=177) (n:=8) (X:=s.at) (fun j hj=>by
    match j,hj with
    | 0,_=>rfl
    | 1,_=>rfl
    | 2,_=>rfl
    | 3,_=>rfl
    | 4,_=>rfl
    | 5,_=>rfl
    | 6,_=>rfl
    | 7,_=>rfl)
   simpa using this
  exact (a0.alloc (by simp) _).below h (by omega)
 have g3:RowAt .u32 w1 (w.heap.size+1+1) 0 8 (fun _=>0):=by
  have a0:RowAt .u32 (((w.alloc (.cells #[.int .i64 32,.int .i64 64,.int .u64 7,.int .u64 18,.int .u64 3,.int .u64 17,.int .u64 19,.int .u64 10,.int .u64 2,.int .u64 13,.int .u64 22,.int .u64 6,.int .u64 11,.int .u64 25] 184)).alloc (.cells #[.int .u32 s.a,.int .u32 s.b,.int .u32 s.c,.int .u32 s.d,.int .u32 s.e,.int .u32 s.f,.int .u32 s.g,.int .u32 s.h] 177)).alloc (.cells #[.int .u32 0,.int .u32 0,.int .u32 0,.int .u32 0,.int .u32 0,.int .u32 0,.int .u32 0,.int .u32 0] 177)) (w.heap.size+1+1) 0 8 (fun _=>0):=by
   have:=RowAt.fresh (K := .u32) (w:=(w.alloc (.cells #[.int .i64 32,.int .i64 64,.int .u64 7,.int .u64 18,.int .u64 3,.int .u64 17,.int .u64 19,.int .u64 10,.int .u64 2,.int .u64 13,.int .u64 22,.int .u64 6,.int .u64 11,.int .u64 25] 184)).alloc (.cells #[.int .u32 s.a,.int .u32 s.b,.int .u32 s.c,.int .u32 s.d,.int .u32 s.e,.int .u32 s.f,.int .u32 s.g,.int .u32 s.h] 177)) (cs:=#[.int .u32 0,.int .u32 0,.int .u32 0,.int .u32 0,.int .u32 0,.int .u32 0,.int .u32 0,.int .u32 0]) (t:=177) (n:=8) (X:=fun _=>0) (fun j hj=>by
    match j,hj with
    | 0,_=>rfl
    | 1,_=>rfl
    | 2,_=>rfl
    | 3,_=>rfl
    | 4,_=>rfl
    | 5,_=>rfl
    | 6,_=>rfl
    | 7,_=>rfl)
   simpa using this
  exact a0.below h (by omega)
 have hnew:RowAt .u32 (w1.alloc (.cells zs32 221)) w1.heap.size 0 80 (fun _=>0):=RowAt.fresh (fun j hj=>zs32_at j hj)
 have hb2:Below w1.heap.size w1 ((w1.alloc (.cells zs32 221)).setCells w1.heap.size 0 (ints .u32 80 W)):=below_setCells (Nat.le_refl _) _ _ _ ((Below.refl _ _).alloc (Nat.le_refl _) _)
 have ho:Below w.heap.size w w1:=((((Below.refl _ _).alloc (Nat.le_refl _) _).alloc (by simp) _).alloc (by simp only [World.size_alloc];omega) _).trans (h.mono (by omega))
 refine ⟨(Rules32.of_box g1).below hb2 (by omega),g2.below hb2 (by omega),g3.below hb2 (by omega),fun j hj=>⟨?_,?_⟩,ho.trans (hb2.mono (by omega)),by omega⟩
 · exact World.rangeAt_setCells_same _ _ _ _ (by rw [ints_len];exact hnew.there) j _ (ints_at _ _ _ j hj)
 · rw [World.frozen?_setCells];exact (hnew j hj).2
set_option maxRecDepth 20000 in
set_option maxHeartbeats 1000000 in
theorem mix32_any (K:Nat→Nat) (hK:∀ j,K j<18446744073709551616) (s:St) (hs:s.lt 4294967296) (bb ob cap:Nat) (bs:Nat→Nat) (hbs:∀ j,bs j<256) (w:World)
 (hcub:∀ j,j<80→w.cell? ⟨3,j,none⟩=some (.int .u64 (K j))) (hcell:∀ j,j<64→w.cell? ⟨bb,ob+j,none⟩=some (.int .u8 (bs j))) :
 Calls Tryz.prog 170 #[(.agg #[.int .i64 32,.int .i64 64,.int .u64 7,.int .u64 18,.int .u64 3,.int .u64 17,.int .u64 19,.int .u64 10,.int .u64 2,.int .u64 13,.int .u64 22,.int .u64 6,.int .u64 11,.int .u64 25]),.agg #[.int .u32 s.a,.int .u32 s.b,.int .u32 s.c,.int .u32 s.d,.int .u32 s.e,.int .u32 s.f,.int .u32 s.g,.int .u32 s.h],.slice (some ⟨bb,ob,none⟩) 64 cap] w
  fun e w'=>e = .returned (.agg (St.vals .u32 (blockS rn K bs s)))∧Below w.heap.size w w':=by
 have hz:=zero221
 have hbb:bb<w.heap.size:=block_lt_of_cell (hcell 0 (by decide))
 have h3:3<w.heap.size:=block_lt_of_cell (hcub 0 (by decide))
 have hcell':∀ j,j<64→(((w.alloc (.cells #[.int .i64 32,.int .i64 64,.int .u64 7,.int .u64 18,.int .u64 3,.int .u64 17,.int .u64 19,.int .u64 10,.int .u64 2,.int .u64 13,.int .u64 22,.int .u64 6,.int .u64 11,.int .u64 25] 184)).alloc (.cells #[.int .u32 s.a,.int .u32 s.b,.int .u32 s.c,.int .u32 s.d,.int .u32 s.e,.int .u32 s.f,.int .u32 s.g,.int .u32 s.h] 177)).alloc (.cells #[.int .u32 0,.int .u32 0,.int .u32 0,.int .u32 0,.int .u32 0,.int .u32 0,.int .u32 0,.int .u32 0] 177)).cell? ⟨bb,ob+j,none⟩=some (.int .u8 (bs j)):=fun j hj=>by
  rw [World.cell?_alloc_lt _ _ _ (by simp;omega),World.cell?_alloc_lt _ _ _ (by simp;omega),World.cell?_alloc_lt _ _ _ hbb];exact hcell j hj
 have hW:∀ j,sch rn (fill 32 4 bs 64) (64 - 16) j<4294967296:=sch_lt (r:=rn) (fill_lt (fun j=>Nat.lt_of_lt_of_le (hbs j) (by decide)) 64) _
 obtain ⟨W,hW'⟩:∃ W,W=sch rn (fill 32 4 bs 64) (64 - 16):=⟨_,rfl⟩
 have HW:Hid (W=sch rn (fill 32 4 bs 64) (64 - 16)):=hW'
 have hsp:=spread32_any bb ob cap bs hbs (((w.alloc (.cells #[.int .i64 32,.int .i64 64,.int .u64 7,.int .u64 18,.int .u64 3,.int .u64 17,.int .u64 19,.int .u64 10,.int .u64 2,.int .u64 13,.int .u64 22,.int .u64 6,.int .u64 11,.int .u64 25] 184)).alloc (.cells #[.int .u32 s.a,.int .u32 s.b,.int .u32 s.c,.int .u32 s.d,.int .u32 s.e,.int .u32 s.f,.int .u32 s.g,.int .u32 s.h] 177)).alloc (.cells #[.int .u32 0,.int .u32 0,.int .u32 0,.int .u32 0,.int .u32 0,.int .u32 0,.int .u32 0,.int .u32 0] 177)) hcell'
 rw [←hW'] at hW hsp
 clear hW' hcell hcell'
 have hi:(Tryz.prog.info? 221).map (·.size)=some (ints .u32 80 W).toArray.size:=by simp only [List.size_toArray,ints_len];kernel_rfl
 have hone:=all_oneCell_toArray (ints_one .u32 80 W)
 go_enter Tryz.func170,Tryz.ntmps170
 go_wp2_with (first
  | (go_at_call 183;refine hsp.mono ?_;clear hsp;rintro e w1 ⟨rfl,hb1⟩;have HM:=mixIn32 (W:=W) hb1;have ht:(w1.alloc (.cells zs32 221)).there w1.heap.size 0 (ints .u32 80 W).toArray.size:=(by simp only [List.size_toArray,ints_len];exact (RowAt.fresh (K := .u32) (X:=fun _=>0) (fun j hj=>zs32_at j hj)).there);clear hb1)
  | (refine wpList_store_mid rfl 221 _ _ rfl _ 0 _ rfl rfl ht hi hone ?_;rw [List.toList_toArray];obtain ⟨w2,hw2⟩:∃ w2,w2=(w1.alloc (.cells zs32 221)).setCells w1.heap.size 0 (ints .u32 80 W):=⟨_,rfl⟩;rw [←hw2] at HM ⊢;clear hw2 ht hi hone hz;have p0:=HM.rules.1;have p1:=HM.rules.2.1;obtain ⟨q0,q1,q2,q3,q4,q5,q6,q7⟩:=HM.state.st))
 go_quiet (fail)
 go_wp2
 clear p0 p1 q0 q1 q2 q3 q4 q5 q6 q7
 go_loopw [9,10,11,12,13,14,15,16,44] (fun a b c d e f g h i wr=>∃ k:Nat,k≤64∧i = .int .i64 k∧a = .int .u32 (roundsS rn K W s k).a∧b = .int .u32 (roundsS rn K W s k).b∧c = .int .u32 (roundsS rn K W s k).c∧d = .int .u32 (roundsS rn K W s k).d∧e = .int .u32 (roundsS rn K W s k).e∧f = .int .u32 (roundsS rn K W s k).f∧g = .int .u32 (roundsS rn K W s k).g∧h = .int .u32 (roundsS rn K W s k).h∧MixIn32 w wr s W w1.heap.size) (fun _ _ _ _ _ _ _ _ i _=>64 - (intOf i).toNat)
 case atStart=>exact ⟨0,Nat.zero_le _,rfl,rfl,rfl,rfl,rfl,rfl,rfl,rfl,rfl,HM.below (below_drewN (Below.refl _ _) _)⟩
 case round =>
  clear HM
  obtain ⟨k,hk,rfl,rfl,rfl,rfl,rfl,rfl,rfl,rfl,rfl,HM⟩:=hrel
  by_cases hlt:k<64
  · have hx:(roundsS rn K W s k).lt 4294967296:=roundsS_lt (r:=rn) hs k
    obtain ⟨x,hxe⟩:∃ x,x=roundsS rn K W s k:=⟨_,rfl⟩
    have HX:Hid (x=roundsS rn K W s k):=hxe
    rw [←hxe] at hx ⊢
    clear hxe
    obtain ⟨p0,p1,p2,p3,p4,p5,p6,p7,p8,p9,p10,p11,p12,p13⟩:=HM.rules
    have hN:w1.heap.size<wr.heap.size:=block_lt_of_cell (HM.row 0 (by decide)).1
    have hM:=HM.far
    have g3:3<wr.heap.size:=by omega
    have g0:w.heap.size<wr.heap.size:=by omega
    have ck:wr.cell? ⟨3,k,none⟩=some (.int .u64 (K k)):=(HM.old.cell (p:=⟨3,k,none⟩) h3).trans (hcub k (by omega))
    have wk:wr.cell? ⟨w1.heap.size,k,none⟩=some (.int .u32 (W k)):=by have:=(HM.row k (by omega)).1;rw [Nat.zero_add] at this;exact this
    have hS:∀ w':World,Below wr.heap.size wr w'→∀ b o,b<wr.heap.size→w'.cell? ⟨b,o,none⟩=wr.cell? ⟨b,o,none⟩:=fun w' h b o hb=>h.cell (p:=⟨b,o,none⟩) hb
    have hb0:Below wr.heap.size wr wr.drew:=(Below.refl _ _).drew
    have hxe:=hx.e
    have hxa:=hx.a
    have hKk:=hK k
    have k80:k<80:=by omega
    have ki:(0:Int)≤(k:Int)∧(k:Int)<80:=by omega
    clear hcub
    go_wp2
    go_region_held3 (fun w'=>Below wr.heap.size wr w') (assumption) (first
     | (go_at_call 184;refine (turnAll32_any _ _ _ _ hxe (by decide) (by decide) (by decide) _).mono ?_;rintro e w' ⟨rfl,hb⟩;have hbn:=below_next (W:=wr) (by assumption) hb)
     | (go_at_call 168;refine (highest32_any _ hKk _).mono ?_;rintro e w' ⟨rfl,hb⟩;have hbn:=below_next (W:=wr) (by assumption) hb))
    clear ck wk hS hb0 hKk
    have q8:w'.cell? ⟨w.heap.size,8,none⟩=some (.int .u64 2):=(hbn.cell (p:=⟨w.heap.size,8,none⟩) g0).trans p8
    have q9:w'.cell? ⟨w.heap.size,9,none⟩=some (.int .u64 13):=(hbn.cell (p:=⟨w.heap.size,9,none⟩) g0).trans p9
    have q10:w'.cell? ⟨w.heap.size,10,none⟩=some (.int .u64 22):=(hbn.cell (p:=⟨w.heap.size,10,none⟩) g0).trans p10
    clear p0 p1 p2 p3 p4 p5 p6 p7 p8 p9 p10 p11 p12 p13
    go_wp2_with (go_at_call 184;refine (turnAll32_any _ _ _ _ hxa (by decide) (by decide) (by decide) _).mono ?_;rintro e w5 ⟨rfl,hb5⟩;have hbn5:=below_next (W:=wr) hbn hb5;clear q8 q9 q10)
    go_roundw
    case rel =>
     have hx':roundsS rn K W s (k+1)=stepS rn (K k / 2 ^ (64 - 32)) (W k) x:=by rw [HX.out];rfl
     have e1:=t1_32 x hx (K k / 2 ^ (64 - 32)) (W k) ((K k:Int) / 4294967296) (by simp)
     have e2:=t2_32 x hx
     refine ⟨k+1,hlt,by go_num,?_⟩
     rw [hx']
     try simp only [IntKind.wrap_u32']
     rw [e1,e2]
     exact ⟨rfl,rfl,rfl,rfl,rfl,rfl,rfl,rfl,HM.below hbn5⟩
    case measure=>simp [intOf];omega
  · have hke:k=64:=by omega
    subst hke
    obtain ⟨x,hxe⟩:∃ x,x=roundsS rn K W s 64:=⟨_,rfl⟩
    have HX:Hid (x=roundsS rn K W s 64):=hxe
    rw [←hxe]
    clear hxe
    obtain ⟨q0,q1,q2,q3,q4,q5,q6,q7⟩:=HM.state.st
    have ht:wr.there (w.heap.size+1+1) 0 8:=HM.res.there
    clear hcub
    go_wp2_with (refine wpList_store_mid rfl 177 _ _ rfl _ 0 _ rfl rfl ht (by kernel_rfl) (by simp [Value.oneCell']) ?_)
    have hbl:blockS rn K bs s=addS rn s x:=by rw [HX.out,HW.out];rfl
    refine bodyPost_ret (results_cell_mid Tryz.results170 _ _ (w.heap.size+1+1) 0 _ _ rfl (World.rangeAt_setCells_same _ _ _ _ ht) Tryz.underlying177 rfl (by kernel_rfl)) rfl ⟨?_,below_setCells (by omega) _ _ _ HM.old⟩
    rw [hbl]
    rfl
def Rules64 (w1:World) (B:Nat):Prop:=w1.cell? ⟨B,0,none⟩=some (.int .i64 64)∧w1.cell? ⟨B,1,none⟩=some (.int .i64 80)∧w1.cell? ⟨B,2,none⟩=some (.int .u64 1)∧w1.cell? ⟨B,3,none⟩=some (.int .u64 8)∧w1.cell? ⟨B,4,none⟩=some (.int .u64 7)∧w1.cell? ⟨B,5,none⟩=some (.int .u64 19)∧w1.cell? ⟨B,6,none⟩=some (.int .u64 61)∧w1.cell? ⟨B,7,none⟩=some (.int .u64 6)∧w1.cell? ⟨B,8,none⟩=some (.int .u64 28)∧w1.cell? ⟨B,9,none⟩=some (.int .u64 34)∧w1.cell? ⟨B,10,none⟩=some (.int .u64 39)∧w1.cell? ⟨B,11,none⟩=some (.int .u64 14)∧w1.cell? ⟨B,12,none⟩=some (.int .u64 18)∧w1.cell? ⟨B,13,none⟩=some (.int .u64 41)
theorem Rules64.below {w1 w2:World} {B n:Nat} (h:Rules64 w1 B) (hb:Below n w1 w2) (hB:B<n):Rules64 w2 B:=by
 have hc:∀ j,w2.cell? ⟨B,j,none⟩=w1.cell? ⟨B,j,none⟩:=fun j=>hb.cell (p:=⟨B,j,none⟩) hB
 unfold Rules64 at *
 simp only [hc]
 exact h
theorem Rules64.of_box {W w1:World} (h:Below (W.heap.size+1) (W.alloc (.cells #[.int .i64 64,.int .i64 80,.int .u64 1,.int .u64 8,.int .u64 7,.int .u64 19,.int .u64 61,.int .u64 6,.int .u64 28,.int .u64 34,.int .u64 39,.int .u64 14,.int .u64 18,.int .u64 41] 184)) w1):Rules64 w1 W.heap.size:=rbox64 h _ rfl
theorem not_64 (e:Nat) (he:e<18446744073709551616):bits .xor .u64 IntKind.u64.max e=((2 ^ 64 - 1 - e:Nat):Int):=by
 have h1:IntKind.u64.max=((18446744073709551615:Nat):Int):=rfl
 rw [h1,u64_xor_nat _ _ (by decide) he]
 have h2:=congrArg BitVec.toNat (BitVec.not_def (x:=BitVec.ofNat 64 e))
 rw [BitVec.toNat_not,BitVec.toNat_xor,BitVec.toNat_allOnes,BitVec.toNat_ofNat,Nat.mod_eq_of_lt he] at h2
 rw [h2]
theorem ch_64 (e f g:Nat) (he:e<18446744073709551616) (hf:f<18446744073709551616) (hg:g<18446744073709551616):bits .xor .u64 (bits .and .u64 e f) (bits .and .u64 (bits .xor .u64 IntKind.u64.max e) g)=((chS 64 e f g:Nat):Int):=by
 rw [not_64 e he,u64_and_nat _ _ he hf,u64_and_nat _ _ (Nat.lt_of_le_of_lt (Nat.sub_le _ _) (by decide)) hg,u64_xor_nat _ _ (Nat.and_lt_two_pow (n:=64) _ hf) (Nat.and_lt_two_pow (n:=64) _ hg)]
 rfl
theorem maj_64 (a b c:Nat) (ha:a<18446744073709551616) (hb:b<18446744073709551616) (hc:c<18446744073709551616):bits .xor .u64 (bits .xor .u64 (bits .and .u64 a b) (bits .and .u64 a c)) (bits .and .u64 b c)=((majS a b c:Nat):Int):=by
 rw [u64_and_nat _ _ ha hb,u64_and_nat _ _ ha hc,u64_and_nat _ _ hb hc,u64_xor_nat _ _ (Nat.and_lt_two_pow (n:=64) _ hb) (Nat.and_lt_two_pow (n:=64) _ hc),u64_xor_nat _ _ (Nat.xor_lt_two_pow (n:=64) (Nat.and_lt_two_pow (n:=64) _ hb) (Nat.and_lt_two_pow (n:=64) _ hc)) (Nat.and_lt_two_pow (n:=64) _ hc)]
 rfl
theorem addv_64 (a b:Nat):((a:Int)+b)%18446744073709551616=(((a+b)%2 ^ 64:Nat):Int):=rfl
structure MixIn64 (w w2:World) (s:St) (W:Nat→Nat) (N:Nat):Prop where
 rules:Rules64 w2 w.heap.size
 state:RowAt .u64 w2 (w.heap.size+1) 0 8 s.at
 res:RowAt .u64 w2 (w.heap.size+1+1) 0 8 (fun _=>0)
 row:RowAt .u64 w2 N 0 80 W
 old:Below w.heap.size w w2
 far:w.heap.size+1+1<N
theorem MixIn64.below {w w2 w3:World} {s:St} {W:Nat→Nat} {N:Nat} (h:MixIn64 w w2 s W N) (hb:Below w2.heap.size w2 w3):MixIn64 w w3 s W N:=by
 have hN:N<w2.heap.size:=block_lt_of_cell (h.row 0 (by decide)).1
 have:=h.far
 exact ⟨h.rules.below hb (by omega),h.state.below hb (by omega),h.res.below hb (by omega),h.row.below hb hN,h.old.trans (hb.mono h.old.size),h.far⟩
end Go.Proofs.YtcgkajlehdgpoaaGreatDoor
namespace Go.Proofs.YtcgkajlehdgpoaaGreatDoor
open Go.RowKit
structure EngAt (K:IntKind) (w:World) (b o:Nat) (s:St) (R:Nat→Nat) (c:Nat):Prop where
 st:RowAt K w b o 8 s.at
 rest:RowAt .u8 w b (o+8) 128 R
 cnt:w.cell? ⟨b,o+136,none⟩=some (.int .i64 c)
 cntf:w.frozen? ⟨b,o+136,none⟩=false
theorem EngAt.below {K:IntKind} {w w':World} {b o:Nat} {s:St} {R:Nat→Nat} {c:Nat} (h:EngAt K w b o s R c) (hb:Below w.heap.size w w'):EngAt K w' b o s R c:=by
 have hl:b<w.heap.size:=block_lt_of_cell h.cnt
 exact ⟨h.st.below hb hl,h.rest.below hb hl,(hb.cell (p:=⟨b,o+136,none⟩) hl).trans h.cnt,(hb.frozen (p:=⟨b,o+136,none⟩) hl).trans h.cntf⟩
theorem EngAt.count {K:IntKind} {w:World} {b o:Nat} {s:St} {R:Nat→Nat} {c:Nat} (h:EngAt K w b o s R c) {v:Int} {c':Nat} (hv:v=(c':Int)):EngAt K (w.setCell ⟨b,o+136,none⟩ (.int .i64 v)) b o s R c':=by
 refine ⟨h.st.apart (o+136) [.int .i64 v] (.inl (by omega)),h.rest.apart (o+136) [.int .i64 v] (.inl (by omega)),?_,by rw [World.frozen?_setCell];exact h.cntf⟩
 rw [World.cell?_setCell_same _ _ _ h.cnt,hv]
theorem EngAt.bytes {K:IntKind} {w:World} {b o:Nat} {s:St} {R:Nat→Nat} {c:Nat} (h:EngAt K w b o s R c) (i n:Nat) (Y:Nat→Nat) (hi:i+n≤128):EngAt K (w.setCells b (o+8+i) (ints .u8 n Y)) b o s (over R i n Y) c:=by
 refine ⟨h.st.apart _ _ (.inl (by omega)),h.rest.splice i n Y hi,?_,by rw [World.frozen?_setCells];exact h.cntf⟩
 rw [World.cell?_setCells_out b _ _ w _ (fun _ _=>by rw [ints_len];show o+136<o+8+i∨o+8+i+n≤o+136;omega)]
 exact h.cnt
theorem vals_ints (K:IntKind) (s:St):(St.vals K s).toList=ints K 8 s.at:=rfl
theorem EngAt.state {K:IntKind} {w:World} {b o:Nat} {s:St} {R:Nat→Nat} {c:Nat} (h:EngAt K w b o s R c) (s':St):EngAt K (w.setCells b o (St.vals K s').toList) b o s' R c:=by
 have e:over s.at 0 8 s'.at=over s.at 0 8 s'.at:=rfl
 have h1:=h.st.splice 0 8 s'.at (by decide)
 rw [Nat.add_zero] at h1
 rw [vals_ints]
 refine ⟨fun j hj => ?_,h.rest.apart _ _ (.inr (by rw [ints_len];omega)),?_,by rw [World.frozen?_setCells];exact h.cntf⟩
 · have:=h1 j hj
   have e2:over s.at 0 8 s'.at j=s'.at j:=by simp [over,hj]
   rw [e2] at this
   exact this
 · rw [World.cell?_setCells_out b _ _ w _ (fun _ _=>by rw [ints_len];show o+136<o∨o+8≤o+136;omega)]
   exact h.cnt
def loopS (r:Ru) (K:Nat→Nat) (s:St) (bs:Nat→Nat):Nat→St
 | 0=>s
 | i+1=>blockS r K (fun j=>bs (i*(2*r.m)+j)) (loopS r K s bs i)
theorem loopS_lt {r:Ru} {K:Nat→Nat} {s:St} {bs:Nat→Nat} (h:s.lt (2 ^ r.m)):∀ i,(loopS r K s bs i).lt (2 ^ r.m)
 | 0=>h
 | _+1=>addS_lt
def tailE (r:Ru) (K:Nat→Nat) (s:St) (R:Nat→Nat) (n:Nat) (bs:Nat→Nat):St × (Nat→Nat) :=
 (loopS r K s bs (n / (2*r.m)),over R 0 (n%(2*r.m)) (fun j=>bs (n / (2*r.m)*(2*r.m)+j)))
def writeE (r:Ru) (K:Nat→Nat) (s:St) (R:Nat→Nat) (c n:Nat) (bs:Nat→Nat):St × (Nat→Nat) :=
 if c%(2*r.m)=0 then tailE r K s R n bs
 else if c%(2*r.m)+n<2*r.m then (s,over R (c%(2*r.m)) n bs)
 else tailE r K (blockS r K (over R (c%(2*r.m)) (2*r.m - c%(2*r.m)) bs) s) (over R (c%(2*r.m)) (2*r.m - c%(2*r.m)) bs) (n - (2*r.m - c%(2*r.m))) (fun j=>bs (2*r.m - c%(2*r.m)+j))
end Go.Proofs.YtcgkajlehdgpoaaGreatDoor
namespace Go.Proofs.YtcgkajlehdgpoaaGreatDoor
open Go.RowKit
def engVals (K:IntKind) (s:St) (R:Nat→Nat) (c:Nat):List Value:=ints K 8 s.at ++ ints .u8 128 R ++ [.int .i64 c]
theorem engVals_len (K:IntKind) (s:St) (R:Nat→Nat) (c:Nat):(engVals K s R c).length=137:=by simp [engVals,ints_len]
theorem engVals_one (K:IntKind) (s:St) (R:Nat→Nat) (c:Nat):∀ v∈engVals K s R c,v.oneCell'=true:=fun v hv=>by
 simp only [engVals,List.mem_append,List.mem_singleton] at hv
 rcases hv with (hv | hv) | rfl
 · exact ints_one _ _ _ v hv
 · exact ints_one _ _ _ v hv
 · rfl
theorem engVals_st (K:IntKind) (s:St) (R:Nat→Nat) (c j:Nat) (h:j<8):(engVals K s R c)[j]? = some (.int K (s.at j)):=by
 unfold engVals
 rw [List.append_assoc,List.getElem?_append_left (by rw [ints_len];exact h)];exact ints_at _ _ _ j h
theorem engVals_rest (K:IntKind) (s:St) (R:Nat→Nat) (c j:Nat) (h:j<128):(engVals K s R c)[8+j]? = some (.int .u8 (R j)):=by
 unfold engVals
 rw [List.append_assoc,List.getElem?_append_right (by rw [ints_len];omega),ints_len,List.getElem?_append_left (by rw [ints_len];omega),show 8+j - 8=j by omega];exact ints_at _ _ _ j h
theorem engVals_cnt (K:IntKind) (s:St) (R:Nat→Nat) (c:Nat):(engVals K s R c)[136]? = some (.int .i64 c):=by
 unfold engVals
 rw [List.getElem?_append_right (by simp [ints_len])];simp [ints_len]
theorem EngAt.of_range {K:IntKind} {w:World} {b o:Nat} {s:St} {R:Nat→Nat} {c:Nat} (h:w.rangeAt b o (engVals K s R c)) (hf:∀ j,j<137→w.frozen? ⟨b,o+j,none⟩=false):EngAt K w b o s R c :=
 ⟨fun j hj=>⟨h j _ (engVals_st K s R c j hj),hf j (by omega)⟩,fun j hj=>by rw [Nat.add_assoc];exact ⟨h (8+j) _ (engVals_rest K s R c j hj),hf _ (by omega)⟩,h 136 _ (engVals_cnt K s R c),hf 136 (by decide)⟩
theorem EngAt.range {K:IntKind} {w:World} {b o:Nat} {s:St} {R:Nat→Nat} {c:Nat} (h:EngAt K w b o s R c):w.rangeAt b o (engVals K s R c):=fun j v hv=>by
 have hj:j<137:=by have:=(List.getElem?_eq_some_iff.1 hv).1;rwa [engVals_len] at this
 by_cases h1:j<8
 · rw [engVals_st K s R c j h1] at hv;rw [←hv];exact (h.st j h1).1
 · by_cases h2:j=136
   · subst h2;rw [engVals_cnt K s R c] at hv;rw [←hv];exact h.cnt
   · have:=(h.rest (j - 8) (by omega)).1
     have hv':=engVals_rest K s R c (j - 8) (by omega)
     rw [show 8+(j - 8)=j by omega] at hv'
     rw [hv'] at hv
     rw [←hv,show o+j=o+8+(j - 8) by omega];exact this
theorem EngAt.there {K:IntKind} {w:World} {b o:Nat} {s:St} {R:Nat→Nat} {c:Nat} (h:EngAt K w b o s R c):w.there b o 137:=fun j hj=>by
 by_cases h1:j<8
 · rw [(h.st j h1).1];exact ⟨rfl,(h.st j h1).2⟩
 · by_cases h2:j=136
   · subst h2;rw [h.cnt];exact ⟨rfl,h.cntf⟩
   · have:=h.rest (j - 8) (by omega)
     rw [show o+8+(j - 8)=o+j by omega] at this
     rw [this.1];exact ⟨rfl,this.2⟩
theorem EngAt.fresh {K:IntKind} (w:World) (s:St) (R:Nat→Nat) (c:Nat) (t:TypeId):EngAt K (w.alloc (.cells (engVals K s R c).toArray t)) w.heap.size 0 s R c :=
 EngAt.of_range (fun j v hv=>by rw [Nat.zero_add];simp [hv]) (fun j hj=>by simp)
theorem EngAt.stored {K:IntKind} {w:World} {b o:Nat} (ht:w.there b o 137) (s:St) (R:Nat→Nat) (c:Nat):EngAt K (w.setCells b o (engVals K s R c)) b o s R c :=
 EngAt.of_range (World.rangeAt_setCells_same _ _ _ _ (by rw [engVals_len];exact ht)) (fun j hj=>by rw [World.frozen?_setCells];exact (ht j hj).2)
theorem RowAt.cong {K:IntKind} {w:World} {b o n:Nat} {X Y:Nat→Nat} (h:RowAt K w b o n X) (e:∀ j,j<n→X j=Y j):RowAt K w b o n Y:=fun j hj=>by rw [←e j hj];exact h j hj
def zSt:St:=⟨0,0,0,0,0,0,0,0⟩
def firstS (r:Ru) (q:Nat→Nat):St:=⟨q 0 / 2 ^ (64 - r.m),q 1 / 2 ^ (64 - r.m),q 2 / 2 ^ (64 - r.m),q 3 / 2 ^ (64 - r.m),q 4 / 2 ^ (64 - r.m),q 5 / 2 ^ (64 - r.m),q 6 / 2 ^ (64 - r.m),q 7 / 2 ^ (64 - r.m)⟩
def stG (m:Nat) (q:Nat→Nat):Nat→Nat→Nat
 | 0=>fun _=>0
 | k+1=>upd (stG m q k) k (q k / 2 ^ (64 - m))
def zeng32:Array Value:=(engVals .u32 zSt (fun _=>0) 0).toArray
theorem zero180 (w:World):Sem.run Tryz.prog (zeroValue 180) w = .ok (.agg zeng32) w:=by kernel_rfl
theorem isz180 (K:IntKind) (s:St) (R:Nat→Nat) (c:Nat):(Tryz.prog.info? 180).map (·.size)=some (engVals K s R c).toArray.size:=by simp only [List.size_toArray,engVals_len];kernel_rfl
theorem first32_at (q:Nat→Nat) (j:Nat) (h:j<8):stG 32 q 8 j=(firstS rn q).at j:=by
 match j,h with
 | 0,_=>rfl
 | 1,_=>rfl
 | 2,_=>rfl
 | 3,_=>rfl
 | 4,_=>rfl
 | 5,_=>rfl
 | 6,_=>rfl
 | 7,_=>rfl
set_option maxRecDepth 20000 in
set_option maxHeartbeats 1000000 in
theorem start32_any (q:Nat→Nat) (hq:∀ j,q j<18446744073709551616) (w:World) (hsq:∀ j,j<8→w.cell? ⟨1,j,none⟩=some (.int .u64 (q j))) :
 Calls Tryz.prog 145 #[(.agg #[.int .i64 32,.int .i64 64,.int .u64 7,.int .u64 18,.int .u64 3,.int .u64 17,.int .u64 19,.int .u64 10,.int .u64 2,.int .u64 13,.int .u64 22,.int .u64 6,.int .u64 11,.int .u64 25])] w fun e w'=>e = .returned (.agg (engVals .u32 (firstS rn q) (fun _=>0) 0).toArray)∧Below w.heap.size w w':=by
 have hz:=zero180
 have h2:1<w.heap.size:=block_lt_of_cell (hsq 0 (by decide))
 go_enter Tryz.func145,Tryz.ntmps145
 go_wp2
 clear hz
 go_loopw [5] (fun i wr=>∃ k:Nat,k≤8∧i = .int .i64 k∧RowAt .u32 wr (w.heap.size+1+1) 0 8 (stG 32 q k)∧RowAt .u8 wr (w.heap.size+1+1) 8 128 (fun _=>0)∧wr.cell? ⟨w.heap.size+1+1,136,none⟩=some (.int .i64 0)∧wr.frozen? ⟨w.heap.size+1+1,136,none⟩=false∧wr.there (w.heap.size+1) 0 137∧Below (w.heap.size+1) (w.alloc (.cells #[.int .i64 32,.int .i64 64,.int .u64 7,.int .u64 18,.int .u64 3,.int .u64 17,.int .u64 19,.int .u64 10,.int .u64 2,.int .u64 13,.int .u64 22,.int .u64 6,.int .u64 11,.int .u64 25] 184)) wr) (fun i _=>8 - (intOf i).toNat)
 case atStart =>
  have e1:=EngAt.fresh (K := .u32) (w.alloc (.cells #[.int .i64 32,.int .i64 64,.int .u64 7,.int .u64 18,.int .u64 3,.int .u64 17,.int .u64 19,.int .u64 10,.int .u64 2,.int .u64 13,.int .u64 22,.int .u64 6,.int .u64 11,.int .u64 25] 184)) zSt (fun _=>0) 0 180
  have e2:=EngAt.fresh (K := .u32) ((w.alloc (.cells #[.int .i64 32,.int .i64 64,.int .u64 7,.int .u64 18,.int .u64 3,.int .u64 17,.int .u64 19,.int .u64 10,.int .u64 2,.int .u64 13,.int .u64 22,.int .u64 6,.int .u64 11,.int .u64 25] 184)).alloc (.cells zeng32 180)) zSt (fun _=>0) 0 180
  have e3:=e1.below ((Below.refl _ _).alloc (Nat.le_refl _) (.cells zeng32 180))
  simp only [World.size_alloc] at e2 e3
  refine ⟨0,Nat.zero_le _,rfl,fun j hj => ?_,?_,e2.cnt,e2.cntf,e3.there,((Below.refl _ _).alloc (by simp) _).alloc (by simp) _⟩
  · have h0:zSt.at j=0:=by
     match j,hj with
     | 0,_=>rfl
     | 1,_=>rfl
     | 2,_=>rfl
     | 3,_=>rfl
     | 4,_=>rfl
     | 5,_=>rfl
     | 6,_=>rfl
     | 7,_=>rfl
    have:=e2.st j hj
    rw [h0] at this
    exact this
  · exact e2.rest
 case round =>
  obtain ⟨k,hk,rfl,hrow,hrest,hcnt,hcntf,hres,hbel⟩:=hrel
  by_cases hlt:k<8
  · obtain ⟨p0,p1,p2,p3,p4,p5,p6,p7,p8,p9,p10,p11,p12,p13⟩:=rbox32 hbel _ rfl
    have hN:w.heap.size+1+1<wr.heap.size:=block_lt_of_cell hcnt
    have g0:w.heap.size<wr.heap.size:=by omega
    have g2:1<wr.heap.size:=by omega
    have hsk:wr.cell? ⟨1,k,none⟩=some (.int .u64 (q k)):=(hbel.cell (p:=⟨1,k,none⟩) (Nat.lt_succ_of_lt h2)).trans ((World.cell?_alloc_lt _ _ _ h2).trans (hsq k hlt))
    have hS:∀ w':World,Near (w.heap.size+1+1) k wr w'→∀ j,w'.cell? ⟨1,j,none⟩=wr.cell? ⟨1,j,none⟩:=fun w' h j=>h.cell _ _ g2 (fun e=>by omega)
    have hS':∀ w':World,Near (w.heap.size+1+1) k wr w'→∀ j,w'.cell? ⟨w.heap.size,j,none⟩=wr.cell? ⟨w.heap.size,j,none⟩:=fun w' h j=>h.cell _ _ g0 (fun e=>by omega)
    have hF:∀ w':World,Near (w.heap.size+1+1) k wr w'→∀ j,w'.frozen? ⟨w.heap.size+1+1,j,none⟩=wr.frozen? ⟨w.heap.size+1+1,j,none⟩:=fun w' h j=>h.frozen _ _ hN
    have hb0:Below wr.heap.size wr wr.drew:=(Below.refl _ _).drew
    obtain ⟨rg,rf⟩:=hrow k (by omega)
    rw [Nat.zero_add] at rg rf
    have hqk:=hq k
    have ki:(0:Int)≤(k:Int)∧(k:Int)<8:=by omega
    clear hsq
    go_wp2
    go_region_held3 (fun w'=>Near (w.heap.size+1+1) k wr w') (first | exact Near.of_below (by assumption) | exact Near.set (by assumption) _) (first
     | (go_at_call 168;refine (highest32_any _ hqk _).mono ?_;rintro e w' ⟨rfl,hb⟩;have hbn:=below_next (W:=wr) (by assumption) hb;have rgn:=(hbn.cell (p:=⟨w.heap.size+1+1,k,none⟩) hN).trans rg))
    clear hS hS' hF hb0 hsk p0 p1 p2 p3 p4 p5 p6 p7 p8 p9 p10 p11 p12 p13
    go_wp2
    go_roundw
    case rel =>
     have h1:=(hrow.below hbn hN).set (i:=k) (by omega) (v:=((q k:Int) / 4294967296)) (u:=q k / 2 ^ (64 - 32)) (by simp)
     rw [Nat.zero_add] at h1
     have h2':RowAt .u8 (w'.setCell ⟨w.heap.size+1+1,k,none⟩ (.int .u32 ((q k:Int) / 4294967296))) (w.heap.size+1+1) 8 128 (fun _=>0):=(hrest.below hbn hN).apart k [.int .u32 ((q k:Int) / 4294967296)] (.inr (by simp;omega))
     have h3':(w'.setCell ⟨w.heap.size+1+1,k,none⟩ (.int .u32 ((q k:Int) / 4294967296))).cell? ⟨w.heap.size+1+1,136,none⟩=some (.int .i64 0):=by
      rw [World.cell?_setCell_other _ _ _ _ (fun e=>by injection e;omega)];exact (hbn.cell (p:=⟨w.heap.size+1+1,136,none⟩) hN).trans hcnt
     have h4':(w'.setCell ⟨w.heap.size+1+1,k,none⟩ (.int .u32 ((q k:Int) / 4294967296))).frozen? ⟨w.heap.size+1+1,136,none⟩=false:=by
      rw [World.frozen?_setCell];exact (hbn.frozen (p:=⟨w.heap.size+1+1,136,none⟩) hN).trans hcntf
     have h5':(w'.setCell ⟨w.heap.size+1+1,k,none⟩ (.int .u32 ((q k:Int) / 4294967296))).there (w.heap.size+1) 0 137:=fun j hj=>by
      rw [World.frozen?_setCell,World.cell?_setCell_other _ _ _ _ (fun e=>by injection e;omega),hbn.cell (p:=⟨w.heap.size+1,0+j,none⟩) (by show w.heap.size+1<_;omega),hbn.frozen (p:=⟨w.heap.size+1,0+j,none⟩) (by show w.heap.size+1<_;omega)];exact hres j hj
     have h6':=(hbel.trans (hbn.mono (by omega))).setCell (p:=⟨w.heap.size+1+1,k,none⟩) (by simp) (.int .u32 ((q k:Int) / 4294967296))
     first
      | exact ⟨k+1,by omega,by go_num,h1,h2',h3',h4',h5',h6'⟩
      | (repeat apply Exists.intro
         refine ⟨?_,rfl⟩
         exact ⟨k+1,by omega,by go_num,h1,h2',h3',h4',h5',h6'⟩)
    case measure=>simp [intOf];omega
  · have hke:k=8:=by omega
    subst hke
    have hE:EngAt .u32 wr (w.heap.size+1+1) 0 (firstS rn q) (fun _=>0) 0:=⟨hrow.cong (first32_at q),hrest,hcnt,hcntf⟩
    have ht:wr.there (w.heap.size+1) 0 (engVals .u32 (firstS rn q) (fun _=>0) 0).toArray.size:=by simp only [List.size_toArray,engVals_len];exact hres
    have hi:=isz180 .u32 (firstS rn q) (fun _=>0) 0
    have hi':(Tryz.prog.info? 180).map (·.size)=some (engVals .u32 (firstS rn q) (fun _=>0) 0).length:=by rw [engVals_len];kernel_rfl
    have hone:=all_oneCell_toArray (engVals_one .u32 (firstS rn q) (fun _=>0) 0)
    clear hsq
    go_wp2_with (first
     | (refine wpList_load_mid rfl 180 _ rfl _ 0 rfl _ _ hE.range Tryz.underlying180 rfl hi' ?_)
     | (refine wpList_store_mid rfl 180 _ _ rfl _ 0 _ rfl rfl ht hi hone ?_))
    refine bodyPost_ret (results_cell_mid Tryz.results145 _ _ (w.heap.size+1) 0 _ _ rfl (World.rangeAt_setCells_same _ _ _ _ (by rw [engVals_len];exact hres)) Tryz.underlying180 rfl hi') rfl ⟨rfl,?_⟩
    exact below_setCells (by omega) _ _ _ (((Below.refl _ _).alloc (Nat.le_refl _) _).trans (hbel.mono (by omega)))
end Go.Proofs.YtcgkajlehdgpoaaGreatDoor
namespace Go.Proofs.YtcgkajlehdgpoaaGreatDoor
open Go.RowKit
theorem made_yes (g n:Nat) (hn:(n:Int)≠0) (w:World) (hc:w.cell? ⟨g,0,none⟩=some (.int .i64 n)):Calls Tryz.prog 173 #[.pointer (some ⟨g,0,none⟩)] w fun e w'=>e = .returned (.bool true)∧w'=w:=by
 have hn':((n:Int) != 0)=true:=by simpa using hn
 go_enter Tryz.func173,Tryz.ntmps173
 go_wp2
 go_ret
 exact ⟨by simp,rfl⟩
def hashVals (n:Nat) (s t:St):List Value := .int .i64 n :: (engVals .u32 s (fun _=>0) 0 ++ engVals .u64 t (fun _=>0) 0)
theorem built256 (s:St):Tryz.prog.built 212 [(0,.int .i64 256),(1,.agg (engVals .u32 s (fun _=>0) 0).toArray)]=some (hashVals 256 s zSt).toArray:=by kernel_rfl
theorem wpList_build_to {P:Program} {ops:Array Oper} {rest:List Oper} {o:Oper} {a:Act} {w:World} {Q:Exit→Act→World→Prop} (hg:o.guard=none) (t:TypeId) (parts:Array (Nat × Operand)) (ho:o.op = .build t parts) (cells:Array Value)
 (hf:P.built t (parts.map fun (i,x)=>(i,a.eval x)).toList=some cells) (h:wpList P ops Q rest (a.put o.dst (.agg cells)) w):wpList P ops Q (o :: rest) a w :=
 wpList_build hg t parts ho (by rw [hf];rfl) (by rw [hf];exact h)
theorem wpList_build2 {P:Program} {ops:Array Oper} {rest:List Oper} {o:Oper} {a:Act} {w:World} {Q:Exit→Act→World→Prop} (hg:o.guard=none) (t:TypeId) (i j:Nat) (x y:Operand) (ho:o.op = .build t #[(i,x),(j,y)]) (u v:Value) (hx:a.eval x=u) (hy:a.eval y=v) (cells:Array Value)
 (hf:P.built t [(i,u),(j,v)]=some cells) (h:wpList P ops Q rest (a.put o.dst (.agg cells)) w):wpList P ops Q (o :: rest) a w :=
 wpList_build_to hg t _ ho cells (by simp only [List.map_toArray,List.map_cons,List.map_nil,hx,hy,hf]) h
theorem hash_narrow (w:World) (n:Nat) (s t:St):EngAt .u32 (w.alloc (.cells (hashVals n s t).toArray 212)) w.heap.size 1 s (fun _=>0) 0 :=
 EngAt.of_range (fun j v hv=>by
  have hj:j<137:=by have:=(List.getElem?_eq_some_iff.1 hv).1;rwa [engVals_len] at this
  have:(hashVals n s t)[1+j]? = some v:=by
   rw [Nat.add_comm,hashVals,List.getElem?_cons_succ,List.getElem?_append_left (by rw [engVals_len];exact hj)];exact hv
  simp [this]) (fun j hj=>by simp)
theorem hash_bits (w:World) (n:Nat) (s t:St):(w.alloc (.cells (hashVals n s t).toArray 212)).cell? ⟨w.heap.size,0,none⟩=some (.int .i64 n):=by simp [hashVals]
set_option maxHeartbeats 400000 in
theorem new256_any (q:Nat→Nat) (hq:∀ j,q j<18446744073709551616) (w:World) (hsq:∀ j,j<8→w.cell? ⟨1,j,none⟩=some (.int .u64 (q j))) (hru:Rules32 w 0) :
 Calls Tryz.prog 148 #[.int .i64 256] w fun e w'=>∃ g,e = .returned (.pointer (some ⟨g,0,none⟩))∧w.heap.size≤g∧w'.cell? ⟨g,0,none⟩=some (.int .i64 256)∧EngAt .u32 w' g 1 (firstS rn q) (fun _=>0) 0∧Below w.heap.size w w':=by
 obtain ⟨p0,p1,p2,p3,p4,p5,p6,p7,p8,p9,p10,p11,p12,p13⟩:=hru
 go_enter Tryz.func148,Tryz.ntmps148
 go_wp2_with (first
  | (go_at_call 145;refine (start32_any q hq _ hsq).mono ?_;rintro e w' ⟨rfl,hb⟩;clear hsq)
  | (refine wpList_build2 rfl 212 0 1 (.tmp 6) (.tmp 8) rfl (.int .i64 256) (.agg (engVals .u32 (firstS rn q) (fun _=>0) 0).toArray) rfl rfl (hashVals 256 (firstS rn q) zSt).toArray (built256 (firstS rn q)) ?_))
 go_ret
 have e1:=hash_bits w' 256 (firstS rn q) zSt
 have e2:=hash_narrow w' 256 (firstS rn q) zSt
 exact ⟨w'.heap.size,rfl,hb.size,e1,e2,hb.alloc hb.size _⟩
end Go.Proofs.YtcgkajlehdgpoaaGreatDoor
