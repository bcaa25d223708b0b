/- What the proof stands on: HRefBlock, HRefPad, HRefTab, HRefSum, RInts, RLess, ROrder, RRest, SApi3, RRed. -/
import Derived.Test.YtdgkmloabificaaGreatDoorHHashM
import Derived.Test.YtdgkmloabificaaGreatDoorHSpreadM
import Derived.Test.YtdgkmloabificaaGreatDoorHSumM
import Derived.Test.YtdgkmloabificaaGreatDoorRRatioM
import Derived.Deep.Cut
import Derived.Deep.RegionWith
import Derived.Deep.Upon
namespace Go.Proofs.YtdgkmloabificaaGreatDoor
open Go.RowKit
theorem andR (x g m:Nat) (hg:g<2 ^ m):x &&& g=(x%2 ^ m) &&& g:=by
 have h1:x &&& g<2 ^ m:=Nat.and_lt_two_pow _ hg
 have h2:=Nat.and_mod_two_pow (a:=x) (b:=g) (n:=m)
 rw [Nat.mod_eq_of_lt h1,Nat.mod_eq_of_lt hg] at h2
 exact h2
theorem below_size_of {B:Nat} {w w1:World} {o:Obj} (h:Below B (w.alloc o) w1):w.heap.size+1≤w1.heap.size:=by have:=h.size;simpa using this
theorem srcS {w w1:World} {gs:Nat} {s:St} (hb:Below w.heap.size w w1) (h:∀ j,j<8→w.cell? ⟨gs,j,none⟩=some (.int .u64 (s.at j))):∀ j u,(ints .u64 8 s.at)[j]? = some u→(w1.alloc (.cells #[] 47)).cell? ((⟨gs,0,none⟩:Addr).add j)=some u:=fun j u hu=>by
 have hj:j<8:=by have:=(List.getElem?_eq_some_iff.1 hu).1;rwa [ints_len] at this
 rw [ints_at _ _ _ j hj] at hu
 have hg:gs<w.heap.size:=block_lt_of_cell (h 0 (by decide))
 rw [Addr.add_mid,Nat.zero_add,World.cell?_alloc_lt _ _ _ (by have:=hb.size;show gs<_;omega),hb.cell (p:=⟨gs,j,none⟩) hg,h j hj,hu]
def addG (m:Nat) (s x:St) (k:Nat):Nat→Nat:=fun j=>if j<k then (s.at j+x.at j)%2 ^ m else x.at j
theorem addG_step (m:Nat) (s x:St) (k j:Nat):upd (addG m s x k) k ((s.at k+x.at k)%2 ^ m) j=addG m s x (k+1) j:=by
 unfold upd addG
 by_cases e:j=k
 · subst e;rw [if_pos rfl,if_pos (by omega)]
 · rw [if_neg e]
   by_cases e2:j<k
   · rw [if_pos e2,if_pos (by omega)]
   · rw [if_neg e2,if_neg (by omega)]
theorem addG_end (r:Ru) (s x:St) (j:Nat) (hj:j<8):addG r.m s x 8 j=(addS r s x).at j:=by
 unfold addG
 rw [if_pos hj]
 match j,hj with
 | 0,_=>rfl
 | 1,_=>rfl
 | 2,_=>rfl
 | 3,_=>rfl
 | 4,_=>rfl
 | 5,_=>rfl
 | 6,_=>rfl
 | 7,_=>rfl
theorem chR_64 (e f g:Nat) (he:e<2 ^ 64) (hf:f<2 ^ 64) (hg:g<2 ^ 64):bits .xor .u64 (bits .and .u64 e f) (bits .and .u64 (bits .xor .u64 IntKind.u64.max e) g)=((chS 64 e f g:Nat):Int):=by
 have l:∀ {x:Nat},x<2 ^ 64→x<18446744073709551616:=fun h=>Nat.lt_of_lt_of_le h (by decide)
 refine (ch_64 e f g (l he) (l hf) (l hg)).trans ?_
 have hmod:(2 ^ 64 - 1 - e)%2 ^ 64=2 ^ 64 - 1 - e:=by
  have h3:(2:Nat) ^ 64=18446744073709551616:=rfl
  have h4:(2:Nat) ^ 64=18446744073709551616:=rfl
  rw [h3] at he ⊢
  try rw [h4]
  omega
 have key:chS 64 e f g=chS 64 e f g:=by
  unfold chS
  rw [andR (2 ^ 64 - 1 - e) g 64 hg,hmod]
 exact congrArg Nat.cast key
theorem majR_64 (a b c:Nat) (ha:a<2 ^ 64) (hb:b<2 ^ 64) (hc:c<2 ^ 64):bits .xor .u64 (bits .xor .u64 (bits .and .u64 a b) (bits .and .u64 a c)) (bits .and .u64 b c)=((majS a b c:Nat):Int):=by
 have l:∀ {x:Nat},x<2 ^ 64→x<18446744073709551616:=fun h=>Nat.lt_of_lt_of_le h (by decide)
 exact maj_64 a b c (l ha) (l hb) (l hc)
theorem cutT_64 (g0 g1 g2 g3:Nat) (S:Nat) (W':World):Calls Tryz.prog 132 #[(.agg #[.int .i64 64,.int .i64 128,.int .i64 80,.slice (some ⟨g0,0,none⟩) 3 3,.slice (some ⟨g1,0,none⟩) 3 3,.slice (some ⟨g2,0,none⟩) 3 3,.slice (some ⟨g3,0,none⟩) 3 3]),.int .u64 ((S%2 ^ 64:Nat):Int)] W' fun e w'=>e = .returned (.int .u64 ((S%2 ^ 64:Nat):Int))∧Below W'.heap.size W' w':=by
 have h:=cut64_any g0 g1 g2 g3 (S%2 ^ 64) (Nat.mod_lt _ (by decide)) W'
 rw [Nat.mod_mod_of_dvd _ (Nat.pow_dvd_pow 2 (by decide))] at h
 exact h
theorem sum5R_64 (a b c d e:Nat):(((((a:Int)+b)%18446744073709551616+c)%18446744073709551616+d)%18446744073709551616+e)%18446744073709551616=(((a+b+c+d+e)%2 ^ 64:Nat):Int):=by
 have h:(2:Nat) ^ 64=18446744073709551616:=rfl
 rw [h];omega
set_option maxRecDepth 20000 in
set_option maxHeartbeats 2000000 in
theorem blockR64_any (K:Nat→Nat) (g0 g1 g2 g3 gs cs gk ck bb ob cap:Nat) (s:St) (hs:s.lt (2 ^ 64)) (bs:Nat→Nat) (hbs:∀ j,bs j<256) (w:World) (hL:Lists64 w g0 g1 g2 g3)
 (hrs:∀ j,j<8→w.cell? ⟨gs,j,none⟩=some (.int .u64 (s.at j))) (hrk:∀ j,j<80→w.cell? ⟨gk,j,none⟩=some (.int .u64 (K j))) (hcell:∀ j,j<128→w.cell? ⟨bb,ob+j,none⟩=some (.int .u8 (bs j))) :
 Calls Tryz.prog 117 #[(.agg #[.int .i64 64,.int .i64 128,.int .i64 80,.slice (some ⟨g0,0,none⟩) 3 3,.slice (some ⟨g1,0,none⟩) 3 3,.slice (some ⟨g2,0,none⟩) 3 3,.slice (some ⟨g3,0,none⟩) 3 3]),.slice (some ⟨gs,0,none⟩) 8 cs,.slice (some ⟨gk,0,none⟩) 80 ck,.slice (some ⟨bb,ob,none⟩) 128 cap] w
  fun e w'=>∃ g c,e = .returned (.slice (some ⟨g,0,none⟩) 8 c)∧w.heap.size≤g∧RowAt .u64 w' g 0 8 (addS rw6 s (roundsS rw6 K (sch rw6 (fun i=>wordR bs (8*i) 8) (80 - 16)) s 80)).at∧Below w.heap.size w w':=by
 obtain ⟨i0,hi,hz0,hz1,hz2⟩:=info_parts Tryz.info47
 have hgs:gs<w.heap.size:=block_lt_of_cell (hrs 0 (by decide))
 have hgk:gk<w.heap.size:=block_lt_of_cell (hrk 0 (by decide))
 have hb1:Below w.heap.size w (w.alloc (.cells #[.int .i64 64,.int .i64 128,.int .i64 80,.slice (some ⟨g0,0,none⟩) 3 3,.slice (some ⟨g1,0,none⟩) 3 3,.slice (some ⟨g2,0,none⟩) 3 3,.slice (some ⟨g3,0,none⟩) 3 3] 117)):=(Below.refl _ _).alloc (Nat.le_refl _) _
 have hbb:bb<w.heap.size:=block_lt_of_cell (hcell 0 (by decide))
 have hwords:=words64_any g0 g1 g2 g3 bb ob cap bs hbs (w.alloc (.cells #[.int .i64 64,.int .i64 128,.int .i64 80,.slice (some ⟨g0,0,none⟩) 3 3,.slice (some ⟨g1,0,none⟩) 3 3,.slice (some ⟨g2,0,none⟩) 3 3,.slice (some ⟨g3,0,none⟩) 3 3] 117)) (hL.below hb1) (fun j hj=>(World.cell?_alloc_lt _ _ _ hbb).trans (hcell j hj))
 have hWl:∀ j,sch rw6 (fun i=>wordR bs (8*i) 8) (80 - 16) j<2 ^ 64:=sch_lt (r:=rw6) (fun j=>wordR64_lt hbs (8*j)) _
 obtain ⟨X,hXe⟩:∃ X:Nat→Nat,X=sch rw6 (fun i=>wordR bs (8*i) 8) (80 - 16):=⟨_,rfl⟩
 rw [←hXe] at hwords hWl ⊢
 clear hXe hcell hbs
 go_enter Tryz.func117,Tryz.ntmps117
 go_wp2_with (first
  | (go_at_call 131;refine hwords.mono ?_;clear hwords;rintro e w1 ⟨v,rfl,hown,hbw1⟩;obtain ⟨gw,cw,hv,hgw,hgwl⟩:=hown.form (by decide);subst hv;simp only [World.size_alloc] at hbw1 hgw;have hw1:Below w.heap.size w w1:=hb1.trans (hbw1.mono (by omega));have hzs1:w.heap.size+1≤w1.heap.size:=below_size_of hbw1;have hcs:=srcS hw1 hrs)
  | (at_builtin;refine wpList_append_lies _ rfl (.tmp 19) (.tmp 20) 132 rfl (w.heap.size+1) 47 i0 (.int .u64 0) 1 8 Tryz.underlying132 hi hz0 hz1 hz2 rfl (by decide) (.slice (some ⟨w1.heap.size,0,none⟩) 0 0) 0 [] rfl (World.ownsRow_lit w1 #[] 0 hzs1 (by decide) rfl) ⟨gs,0,none⟩ 8 cs (ints .u64 8 s.at) rfl rfl hcs (ints_one _ _ _) (by decide) (by decide) (by decide) (by simp only [World.size_alloc];omega) _ rfl ?_;intro gx cx w2 hownx hgrowx hat hgl))
 rw [List.nil_append,Nat.zero_add] at hownx
 have hx0:RowAt .u64 w2 gx 0 8 s.at:=fun j hj=>by
  rw [Nat.zero_add]
  exact ⟨by rw [hownx.cellAt j (by omega),ints_at _ _ _ j hj],hownx.frozenAt j⟩
 have hgx:w.heap.size+1≤gx:=(hownx.lt gx rfl).1
 have hb2:Below w1.heap.size w1 w2:=((Below.refl _ _).alloc (Nat.le_refl _) _).grown hgrowx (by simp) (fun q h=>by cases h;exact Nat.le_refl _)
 have hw2:Below w.heap.size w w2:=hw1.trans (hb2.mono hw1.size)
 have hL2:=hL.below hw2
 have hZ2:ZBox64 w2 w.heap.size g0 g1 g2 g3:=by
  have hz:=zbox64 w g0 g1 g2 g3
  have hc:∀ j,w2.cell? ⟨w.heap.size,j,none⟩=(w.alloc (.cells #[.int .i64 64,.int .i64 128,.int .i64 80,.slice (some ⟨g0,0,none⟩) 3 3,.slice (some ⟨g1,0,none⟩) 3 3,.slice (some ⟨g2,0,none⟩) 3 3,.slice (some ⟨g3,0,none⟩) 3 3] 117)).cell? ⟨w.heap.size,j,none⟩:=fun j=>(hb2.cell (p:=⟨w.heap.size,j,none⟩) (by show w.heap.size<_;omega)).trans (hbw1.cell (p:=⟨w.heap.size,j,none⟩) (Nat.lt_succ_self _))
  unfold ZBox64 at *
  simp only [hc]
  exact hz
 have hrw:∀ j,j<80→w2.cell? ⟨gw,j,none⟩=some (.int .u64 (X j)):=fun j hj=>(hb2.cell (p:=⟨gw,j,none⟩) hgwl).trans (by rw [hown.cellAt j (by omega),ints_at _ _ _ j hj])
 have hrk2:∀ j,j<80→w2.cell? ⟨gk,j,none⟩=some (.int .u64 (K j)):=fun j hj=>(hw2.cell (p:=⟨gk,j,none⟩) hgk).trans (hrk j hj)
 have hrs2:∀ j,j<8→w2.cell? ⟨gs,j,none⟩=some (.int .u64 (s.at j)):=fun j hj=>(hw2.cell (p:=⟨gs,j,none⟩) hgs).trans (hrs j hj)
 have hs2:=hw2.size
 have hlg:gx<w2.heap.size:=hgl
 have hlw:gw<w2.heap.size:=by have:=hb2.size;omega
 have hlz:w.heap.size<w2.heap.size:=by have:=hb2.size;omega
 have hlk:gk<w2.heap.size:=by omega
 have hls:gs<w2.heap.size:=by omega
 clear hL hrk hown hbw1 hgrowx hat hownx hcs hb1 hgl hb2 hw1
 go_wp2
 go_loopw [10,11] (fun v i wr=>∃ k g c:Nat,k≤80∧i = .int .i64 k∧v = .slice (some ⟨g,0,none⟩) 8 c∧w.heap.size+1≤g∧RowAt .u64 wr g 0 8 (roundsS rw6 K X s k).at∧Below w2.heap.size w2 wr) (fun _ i _=>80 - (intOf i).toNat)
 case atStart=>exact ⟨0,gx,cx,Nat.zero_le _,rfl,rfl,hgx,hx0,Below.refl _ _⟩
 case round =>
  clear hx0 hgx hlg
  obtain ⟨k,g,c,hk,rfl,rfl,hg,hrow,hbel⟩:=hrel
  have hgl:g<wr.heap.size:=block_lt_of_cell (hrow 0 (by decide)).1
  have hsz:=hbel.size
  have hZ:=hZ2.below hbel
  by_cases hlt:k<80
  · have hx:(roundsS rw6 K X s k).lt (2 ^ 64):=roundsS_lt (r:=rw6) hs k
    obtain ⟨x,hxe⟩:∃ x,x=roundsS rw6 K X s k:=⟨_,rfl⟩
    have HX:Hid (x=roundsS rw6 K X s k):=hxe
    rw [←hxe] at hx hrow
    clear hxe
    obtain ⟨q0,q1,q2,q3,q4,q5,q6,q7⟩:=hrow.st
    obtain ⟨z0,z1,z2,z3,z4,z5,z6⟩:=hZ
    have rk:wr.cell? ⟨gk,k,none⟩=some (.int .u64 (K k)):=(hbel.cell (p:=⟨gk,k,none⟩) hlk).trans (hrk2 k (by omega))
    have rw':wr.cell? ⟨gw,k,none⟩=some (.int .u64 (X k)):=(hbel.cell (p:=⟨gw,k,none⟩) hlw).trans (hrw k hlt)
    have kn:k<80:=by omega
    have kn2:k<80:=hlt
    have ki:(0:Int)≤(k:Int)∧(k:Int)<80:=by omega
    have hS:∀ w':World,Below wr.heap.size wr w'→∀ b o,b<wr.heap.size→w'.cell? ⟨b,o,none⟩=wr.cell? ⟨b,o,none⟩:=fun w' h b o hb=>h.cell (p:=⟨b,o,none⟩) hb
    have m0:w.heap.size<wr.heap.size:=by omega
    have m1:gw<wr.heap.size:=by omega
    have hLw:=hL2.below hbel
    have hbA:∀ n,Below wr.heap.size wr (wr.drewN n).drew:=fun n=>(below_drewN (Below.refl _ _) n).drew
    obtain ⟨v1,f1⟩:∃ a,a=hi3 64 x.e (14,18,41):=⟨_,rfl⟩
    obtain ⟨v2,f2⟩:∃ a,a=hi3 64 x.a (28,34,39):=⟨_,rfl⟩
    obtain ⟨T1,fT1⟩:∃ a,a=t1S rw6 (K k / 2 ^ (64 - 64)) (X k) x:=⟨_,rfl⟩
    obtain ⟨T2,fT2⟩:∃ a,a=t2S rw6 x:=⟨_,rfl⟩
    have hhi1:∀ W':World,Below wr.heap.size wr W'→Calls Tryz.prog 133 #[(.agg #[.int .i64 64,.int .i64 128,.int .i64 80,.slice (some ⟨g0,0,none⟩) 3 3,.slice (some ⟨g1,0,none⟩) 3 3,.slice (some ⟨g2,0,none⟩) 3 3,.slice (some ⟨g3,0,none⟩) 3 3]),.int .u64 x.e,.slice (some ⟨g3,0,none⟩) 3 3] W' fun e w'=>e = .returned (.int .u64 (v1:Int))∧Below W'.heap.size W' w':=fun W' h=>by
     have L:=hLw.below h
     rw [f1]
     exact high64_any g0 g1 g2 g3 g3 _ 14 18 41 hx.e (by decide) (by decide) (by decide) W' L.d0 L.d1 L.d2
    have hhi2:∀ W':World,Below wr.heap.size wr W'→Calls Tryz.prog 133 #[(.agg #[.int .i64 64,.int .i64 128,.int .i64 80,.slice (some ⟨g0,0,none⟩) 3 3,.slice (some ⟨g1,0,none⟩) 3 3,.slice (some ⟨g2,0,none⟩) 3 3,.slice (some ⟨g3,0,none⟩) 3 3]),.int .u64 x.a,.slice (some ⟨g2,0,none⟩) 3 3] W' fun e w'=>e = .returned (.int .u64 (v2:Int))∧Below W'.heap.size W' w':=fun W' h=>by
     have L:=hLw.below h
     rw [f2]
     exact high64_any g0 g1 g2 g3 g2 _ 28 34 39 hx.a (by decide) (by decide) (by decide) W' L.c0 L.c1 L.c2
    have hcut1:∀ W':World,Calls Tryz.prog 132 #[(.agg #[.int .i64 64,.int .i64 128,.int .i64 80,.slice (some ⟨g0,0,none⟩) 3 3,.slice (some ⟨g1,0,none⟩) 3 3,.slice (some ⟨g2,0,none⟩) 3 3,.slice (some ⟨g3,0,none⟩) 3 3]),.int .u64 (IntKind.u64.wrap (IntKind.u64.wrap (IntKind.u64.wrap (IntKind.u64.wrap ((x.h:Int)+v1)+bits .xor .u64 (bits .and .u64 x.e x.f) (bits .and .u64 (bits .xor .u64 IntKind.u64.max x.e) x.g))+(K k:Int))+X k))] W' fun e w'=>e = .returned (.int .u64 (T1:Int))∧Below W'.heap.size W' w':=fun W'=>by
     have ek:(K k:Int)=((K k / 2 ^ (64 - 64):Nat):Int):=by simp
     simp only [IntKind.wrap_u64]
     rw [chR_64 _ _ _ hx.e hx.f hx.g,ek,sum5R_64,fT1]
     have h:=cutT_64 g0 g1 g2 g3 (x.h+v1+chS 64 x.e x.f x.g+K k / 2 ^ (64 - 64)+X k) W'
     rw [f1] at h ⊢
     exact h
    have hcut2:∀ W':World,Calls Tryz.prog 132 #[(.agg #[.int .i64 64,.int .i64 128,.int .i64 80,.slice (some ⟨g0,0,none⟩) 3 3,.slice (some ⟨g1,0,none⟩) 3 3,.slice (some ⟨g2,0,none⟩) 3 3,.slice (some ⟨g3,0,none⟩) 3 3]),.int .u64 (IntKind.u64.wrap ((v2:Int)+bits .xor .u64 (bits .xor .u64 (bits .and .u64 x.a x.b) (bits .and .u64 x.a x.c)) (bits .and .u64 x.b x.c)))] W' fun e w'=>e = .returned (.int .u64 (T2:Int))∧Below W'.heap.size W' w':=fun W'=>by
     simp only [IntKind.wrap_u64]
     rw [majR_64 _ _ _ hx.a hx.b hx.c,addv_64,fT2]
     have h:=cutT_64 g0 g1 g2 g3 (v2+majS x.a x.b x.c) W'
     rw [f2] at h ⊢
     exact h
    obtain ⟨A',fA⟩:∃ a,a=(T1+T2)%2 ^ 64:=⟨_,rfl⟩
    obtain ⟨E',fE⟩:∃ a,a=(x.d+T1)%2 ^ 64:=⟨_,rfl⟩
    have hcut3:∀ W':World,Calls Tryz.prog 132 #[(.agg #[.int .i64 64,.int .i64 128,.int .i64 80,.slice (some ⟨g0,0,none⟩) 3 3,.slice (some ⟨g1,0,none⟩) 3 3,.slice (some ⟨g2,0,none⟩) 3 3,.slice (some ⟨g3,0,none⟩) 3 3]),.int .u64 (IntKind.u64.wrap ((T1:Int)+T2))] W' fun e w'=>e = .returned (.int .u64 (A':Int))∧Below W'.heap.size W' w':=fun W'=>by
     simp only [IntKind.wrap_u64]
     rw [addv_64,fA]
     exact cutT_64 g0 g1 g2 g3 (T1+T2) W'
    have hcut4:∀ W':World,Calls Tryz.prog 132 #[(.agg #[.int .i64 64,.int .i64 128,.int .i64 80,.slice (some ⟨g0,0,none⟩) 3 3,.slice (some ⟨g1,0,none⟩) 3 3,.slice (some ⟨g2,0,none⟩) 3 3,.slice (some ⟨g3,0,none⟩) 3 3]),.int .u64 (IntKind.u64.wrap ((x.d:Int)+T1))] W' fun e w'=>e = .returned (.int .u64 (E':Int))∧Below W'.heap.size W' w':=fun W'=>by
     simp only [IntKind.wrap_u64]
     rw [addv_64,fE]
     exact cutT_64 g0 g1 g2 g3 (x.d+T1) W'
    have HST:Hid (stepS rw6 (K k / 2 ^ (64 - 64)) (X k) x=⟨A',x.a,x.b,x.c,E',x.e,x.f,x.g⟩):=(by rw [fA,fE,fT1,fT2];rfl:stepS rw6 (K k / 2 ^ (64 - 64)) (X k) x=⟨A',x.a,x.b,x.c,E',x.e,x.f,x.g⟩)
    clear f1 f2 fT1 fT2 fA fE hLw hL2 hZ2 hrw hrk2 hrs2 hs hWl hrs
    go_wp2
    go_quiet (fail)
    go_wp2
    go_region_held3 (fun w'=>Below wr.heap.size wr w') (first | assumption | exact hbA _) (first
     | (go_at_call 133;refine (hhi1 _ (by first | assumption | exact hbA _)).mono ?_;rintro e w' ⟨rfl,hb⟩;have hbn:=below_next (W:=wr) (by first | assumption | exact hbA _) hb)
     | (go_at_call 132;refine (hcut1 _).mono ?_;rintro e w' ⟨rfl,hb⟩;have hbn:=below_next (W:=wr) (by assumption) hb))
    clear hhi1 hcut1
    go_wp2
    go_region_held3 (fun w'=>Below wr.heap.size wr w') (first | assumption | exact Below.drew (by assumption)) (first
     | (go_at_call 133;refine (hhi2 _ (by first | assumption | exact Below.drew (by assumption))).mono ?_;rintro e w' ⟨rfl,hb⟩;have hbn:=below_next (W:=wr) (by first | assumption | exact Below.drew (by assumption)) hb)
     | (go_at_call 132;refine (hcut2 _).mono ?_;rintro e w' ⟨rfl,hb⟩;have hbn:=below_next (W:=wr) (by assumption) hb))
    clear hhi2 hcut2
    go_wp2
    go_region_held3 (fun w'=>Below wr.heap.size wr w') (first | assumption | exact Below.drew (by assumption) | exact Below.alloc (by assumption) (Below.size (by assumption)) _) (first
     | (go_at_call_of 132 T2;refine (hcut3 _).mono ?_;rintro e w' ⟨rfl,hb⟩;have hbn:=below_next (W:=wr) (by first | assumption | exact Below.drew (by assumption)) hb)
     | (go_at_call_of 132 (x.d);refine (hcut4 _).mono ?_;rintro e w' ⟨rfl,hb⟩;have hbn:=below_next (W:=wr) (by assumption) hb))
    clear hcut3 hcut4 hS hbA q0 q1 q2 q3 q4 q5 q6 q7 z0 z1 z2 z3 z4 z5 z6 rk rw'
    go_wp2
    go_roundw
    case rel =>
     have hst:roundsS rw6 K X s (k+1)=⟨A',x.a,x.b,x.c,E',x.e,x.f,x.g⟩:=by rw [←HST.out,HX.out];rfl
     have hf:RowAt .u64 (w'.alloc (.cells #[.int .u64 A',.int .u64 x.a,.int .u64 x.b,.int .u64 x.c,.int .u64 E',.int .u64 x.e,.int .u64 x.f,.int .u64 x.g] 47)) w'.heap.size 0 8 (roundsS rw6 K X s (k+1)).at:=by
      rw [hst]
      exact RowAt.fresh (fun j hj=>by
       match j,hj with
       | 0,_=>rfl
       | 1,_=>rfl
       | 2,_=>rfl
       | 3,_=>rfl
       | 4,_=>rfl
       | 5,_=>rfl
       | 6,_=>rfl
       | 7,_=>rfl)
     have hbz:=hbn.size
     have hbf:=hbel.trans ((hbn.alloc hbn.size (.cells #[.int .u64 A',.int .u64 x.a,.int .u64 x.b,.int .u64 x.c,.int .u64 E',.int .u64 x.e,.int .u64 x.f,.int .u64 x.g] 47)).mono hsz)
     exact ⟨k+1,w'.heap.size,8,hlt,by go_num,rfl,by omega,hf,hbf⟩
    case measure=>simp [intOf];omega
  · have hke:k=80:=by omega
    rw [hke] at hrow
    clear hke
    have hw3:Below w.heap.size w wr:=hw2.trans (hbel.mono hs2)
    obtain ⟨x,hxe⟩:∃ x,x=roundsS rw6 K X s 80:=⟨_,rfl⟩
    have HX:Hid (x=roundsS rw6 K X s 80):=hxe
    rw [←hxe] at hrow
    have hrs0:∀ W,Below w.heap.size w W→∀ j,j<8→W.cell? ⟨gs,j,none⟩=some (.int .u64 (s.at j)):=fun W h j hj=>(h.cell (p:=⟨gs,j,none⟩) hgs).trans (hrs j hj)
    clear hxe hL2 hZ2 hrw hrk2 hrs2 hw2 hrs
    obtain ⟨z0,z1,z2,z3,z4,z5,z6⟩:=id hZ
    go_wp2
    clear z0 z1 z2 z3 z4 z5 z6
    go_loopw [15] (fun i wq=>∃ k:Nat,k≤8∧i = .int .i64 k∧RowAt .u64 wq g 0 8 (addG 64 s x k)∧Below w.heap.size w wq∧ZBox64 wq w.heap.size g0 g1 g2 g3∧w.heap.size<wq.heap.size) (fun i _=>8 - (intOf i).toNat)
    case atStart=>exact ⟨0,Nat.zero_le _,rfl,hrow.congr (fun j _=>by simp [addG]),hw3,hZ,by omega⟩
    case round =>
     clear hrow hZ hw3 hgl hsz hbel hlt hk
     obtain ⟨k,hk,rfl,hr,hbq,hZq,hzq⟩:=hrel
     by_cases hlt:k<8
     · obtain ⟨z0,z1,z2,z3,z4,z5,z6⟩:=id hZq
       obtain ⟨rx,rf⟩:=hr k hlt
       rw [Nat.zero_add] at rx rf
       have hgq:g<wr.heap.size:=block_lt_of_cell rx
       have rs:=hrs0 _ hbq k hlt
       have ea:addG 64 s x k k=x.at k:=by simp [addG]
       rw [ea] at rx
       have hcut:∀ W':World,Calls Tryz.prog 132 #[(.agg #[.int .i64 64,.int .i64 128,.int .i64 80,.slice (some ⟨g0,0,none⟩) 3 3,.slice (some ⟨g1,0,none⟩) 3 3,.slice (some ⟨g2,0,none⟩) 3 3,.slice (some ⟨g3,0,none⟩) 3 3]),.int .u64 (IntKind.u64.wrap ((x.at k:Int)+s.at k))] W' fun e w'=>e = .returned (.int .u64 (((s.at k+x.at k)%2 ^ 64:Nat):Int))∧Below W'.heap.size W' w':=fun W'=>by
        simp only [IntKind.wrap_u64]
        rw [addv_64,Nat.add_comm (s.at k)]
        exact cutT_64 g0 g1 g2 g3 (x.at k+s.at k) W'
       have hb0:Below wr.heap.size wr wr.drew:=(Below.refl _ _).drew
       go_wp2
       go_region_with ((go_at_call 132;refine (hcut _).mono ?_;rintro e w' ⟨rfl,hb⟩;have hbn:=below_next hb0 hb;have rx':=(hbn.cell (p:=⟨g,k,none⟩) hgq).trans rx;have rf':=(hbn.frozen (p:=⟨g,k,none⟩) hgq).trans rf))
       all_goals
        go_wp2
        go_roundw
        case rel =>
         have h1:=(hr.below hbn hgq).set (i:=k) hlt (v:=(((s.at k+x.at k)%2 ^ 64:Nat):Int)) (u:=(s.at k+x.at k)%2 ^ 64) rfl
         rw [Nat.zero_add] at h1
         have hbs:=hbn.size
         have hbq':=hbq.size
         refine ⟨k+1,by omega,by go_num,h1.congr (fun j hj => ?_),(hbq.trans (hbn.mono hbq')).setCell (by show w.heap.size≤g;omega) _,?_,by simp;omega⟩
         · exact addG_step _ _ _ _ _
         · have hz:=hZq.below hbn
           unfold ZBox64 at *
           have hne:∀ v q,(w'.setCell ⟨g,k,none⟩ v).cell? ⟨w.heap.size,q,none⟩=w'.cell? ⟨w.heap.size,q,none⟩:=fun v q=>World.cell?_setCell_other _ _ _ _ (by intro h;injection h;omega)
           simp only [hne]
           exact hz
        case measure=>simp [intOf];omega
     · have hke:k=8:=by omega
       subst hke
       go_wp2
       go_ret
       refine ⟨g,c,rfl,by omega,hr.congr (fun j hj => ?_),hbq⟩
       rw [←HX.out]
       exact addG_end rw6 s x j hj
end Go.Proofs.YtdgkmloabificaaGreatDoor
namespace Go.Proofs.YtdgkmloabificaaGreatDoor
open Go.RowKit
theorem padG_at (N c:Nat):∀ i j,i≤8→9≤N→j<N→padG N c i j=if N - i≤j then c*8 / 2 ^ (8*(N - 1 - j))%256 else if j=0 then 128 else 0
 | 0,j,_,_,hj=>by
  rw [if_neg (by omega)]
  unfold padG upd
  rfl
 | i+1,j,hi,hN,hj=>by
  unfold padG upd
  by_cases e:j=N - 1 - i
  · rw [if_pos e,if_pos (by omega),show N - 1 - j=i by omega]
  · rw [if_neg e,padG_at N c i j (by omega) hN hj]
    by_cases e2:N - i≤j
    · rw [if_pos e2,if_pos (by omega)]
    · rw [if_neg e2,if_neg (show ¬(N - (i+1)≤j) by omega)]
theorem padN64_ge (c:Nat):9≤padN rw6 c:=by
 show 9≤1+(4*64 - 1 - 64 / 4 - c%(2*64))%(2*64)+64 / 4
 omega
theorem padF64_first (c:Nat):padF rw6 c 0=128:=by
 have h:=padN64_ge c
 unfold padF
 rw [padG_at _ c 8 0 (Nat.le_refl _) (by omega) (by omega),if_neg (by omega),if_pos rfl]
theorem padF64_mid (c t:Nat) (h0:0<t) (ht:t+8<padN rw6 c):padF rw6 c t=0:=by
 unfold padF
 rw [padG_at _ c 8 t (Nat.le_refl _) (by omega) (by omega),if_neg (by omega),if_neg (by omega)]
theorem padF64_last (c i t:Nat) (hi:i<8) (ht:t+1+i=padN rw6 c):padF rw6 c t=c*8 / 2 ^ (8*i)%256:=by
 have h:=padN64_ge c
 unfold padF
 rw [padG_at _ c 8 t (Nat.le_refl _) (by omega) (by omega),if_pos (by omega),show padN rw6 c - 1 - t=i by omega]
set_option maxRecDepth 20000 in
set_option maxHeartbeats 2000000 in
theorem padded64_any (g0 g1 g2 g3:Nat) (v:Value) (n:Nat) (bs:Nat→Nat) (w:World) (hv:BytesIn w v n bs) (hn:n<140737488355000) :
 Calls Tryz.prog 116 #[(.agg #[.int .i64 64,.int .i64 128,.int .i64 80,.slice (some ⟨g0,0,none⟩) 3 3,.slice (some ⟨g1,0,none⟩) 3 3,.slice (some ⟨g2,0,none⟩) 3 3,.slice (some ⟨g3,0,none⟩) 3 3]),v] w fun e w'=>∃ v',e = .returned v'∧Own w.heap.size w' v' (n+padN rw6 n) (cat n bs (padF rw6 n))∧Below w.heap.size w w':=by
 obtain ⟨xo,cx,rfl,hxn,-,hsrc⟩:=hv.src
 clear hv
 obtain ⟨F,hF⟩:∃ F,F=cat n bs (padF rw6 n):=⟨_,rfl⟩
 have HF:Hid (F=cat n bs (padF rw6 n)):=hF
 obtain ⟨Z,hZ⟩:∃ Z,Z=(4*64 - 1 - 16 - n%128)%128:=⟨_,rfl⟩
 have hN:padN rw6 n=1+Z+16:=by rw [hZ];rfl
 have F0:∀ j,j<n→F j=bs j:=fun j hj=>by rw [hF,cat_left hj]
 have F1:F n=128:=by rw [hF];unfold cat;rw [if_neg (by omega),Nat.sub_self];exact padF64_first n
 have F2:∀ k,k<Z→F (n+1+k)=0:=fun k hk=>by rw [hF,Nat.add_assoc,cat_right];exact padF64_mid n _ (by omega) (by omega)
 have F3:∀ k,k+8<16→F (n+1+Z+k)=0:=fun k hk=>by rw [hF,Nat.add_assoc,Nat.add_assoc,cat_right];exact padF64_mid n _ (by omega) (by omega)
 have F4:∀ k i,i<8→k+1+i=16→F (n+1+Z+k)=n*8 / 2 ^ (8*i)%256:=fun k i hi hk=>by rw [hF,Nat.add_assoc,Nat.add_assoc,cat_right];exact padF64_last n i _ hi (by omega)
 rw [hN,←hF]
 have hbZ:Below w.heap.size w (w.alloc (.cells #[.int .i64 64,.int .i64 128,.int .i64 80,.slice (some ⟨g0,0,none⟩) 3 3,.slice (some ⟨g1,0,none⟩) 3 3,.slice (some ⟨g2,0,none⟩) 3 3,.slice (some ⟨g3,0,none⟩) 3 3] 117)):=(Below.refl _ _).alloc (Nat.le_refl _) _
 have hzb:=zbox64 w g0 g1 g2 g3
 obtain ⟨W,hW⟩:∃ W,W=w.alloc (.cells #[.int .i64 64,.int .i64 128,.int .i64 80,.slice (some ⟨g0,0,none⟩) 3 3,.slice (some ⟨g1,0,none⟩) 3 3,.slice (some ⟨g2,0,none⟩) 3 3,.slice (some ⟨g3,0,none⟩) 3 3] 117):=⟨_,rfl⟩
 have HW:Hid (W=w.alloc (.cells #[.int .i64 64,.int .i64 128,.int .i64 80,.slice (some ⟨g0,0,none⟩) 3 3,.slice (some ⟨g1,0,none⟩) 3 3,.slice (some ⟨g2,0,none⟩) 3 3,.slice (some ⟨g3,0,none⟩) 3 3] 117)):=hW
 have hWs:W.heap.size=w.heap.size+1:=by rw [hW];simp
 rw [←hW] at hbZ hzb
 have hW0:w.heap.size+1≤W.heap.size:=by omega
 have src0:Src (W.alloc (.cells #[] 5)) xo n F:=by
  rcases hsrc _ (hbZ.alloc (by omega) (.cells #[] 5)) with h | ⟨bb,ob,h1,h2⟩
  · exact .inl h
  · exact .inr ⟨bb,ob,h1,fun j hj=>by rw [F0 j hj];exact h2 j hj⟩
 clear hF hW hsrc F0
 go_enter Tryz.func116,Tryz.ntmps116
 go_wp2_with (first
  | (at_builtin;rw [←HW.out];go_loud (refine wpList_append_empty rfl (.tmp 8) (.tmp 9) rfl (w.heap.size+1) F (w.heap.size+1) hWs rfl xo n cx rfl src0 hxn (by omega) hW0 ?_);intro v1 w1 own1 hb1;have hs1:=hb1.size;clear src0)
  | (at_builtin;refine wpList_append_next rfl (.tmp 10) (.tmp 11) rfl (w.heap.size+1) v1 n F _ rfl own1 rfl (by rw [F1];rfl) (by omega) (by omega) ?_;intro v2 w2 own2 hb2;replace hb2:=hb1.trans hb2;clear own1 hb1 hs1))
 have hzw:∀ wr,Below (w.heap.size+1) W wr→wr.cell? ⟨w.heap.size,1,none⟩=some (.int .i64 128):=fun wr h=>(h.cell (p:=⟨w.heap.size,1,none⟩) (Nat.lt_succ_self _)).trans hzb.2.1
 go_loopw [5] (fun v wr=>∃ k:Nat,k≤Z∧Own (w.heap.size+1) wr v (n+1+k) F∧Below (w.heap.size+1) W wr) (fun v _=>n+1+Z - lenV v)
 case atStart=>exact ⟨0,Nat.zero_le _,own2,hb2⟩
 case round =>
  clear own2 hb2
  obtain ⟨k,hk,own,hb⟩:=hrel
  obtain ⟨L,hL⟩:∃ L,L=n+1+k:=⟨_,rfl⟩
  have HL:Hid (L=n+1+k):=hL
  rw [←hL] at own
  rcases own.form with ⟨-,h0⟩ | ⟨g,cap,rfl,-,-,-,-⟩
  · omega
  have hs:=hb.size
  have hz1:=hzw _ hb
  have hLb:L<140737488355300:=by omega
  by_cases hlt:k<Z
  · have hc:((L:Int)+16)%128≠0:=by omega
    have hFL:Hid ((0:Int)=(F L:Int)):=(by rw [hL,F2 k hlt];rfl:(0:Int)=(F L:Int))
    clear hL hZ hN
    go_wp2_with (at_builtin;go_loud (refine wpList_append_next rfl (.tmp 23) (.tmp 24) rfl (w.heap.size+1) _ L F _ rfl own rfl hFL.out (by omega) (by omega) ?_);intro v3 w3 own3 hb3)
    rcases own3.form with ⟨-,h0⟩ | ⟨g3,cap3,rfl,-,-,-,-⟩
    · omega
    go_roundw
    case rel=>exact ⟨k+1,by omega,own3.start (by have:=HL.out;omega),hb.trans hb3⟩
    case measure=>have:=HL.out;simp [lenV];omega
  · have hc:((L:Int)+16)%128=0:=by omega
    have hkZ:k=Z:=by omega
    rw [hkZ] at hL
    have HLZ:Hid (L=n+1+Z):=hL
    clear hL hkZ hZ
    go_wp2
    clear hz1 hc
    go_loopw [5,7] (fun v i wq=>∃ k:Nat,k≤16∧i = .int .i64 (16 - 1 - (k:Int))∧Own (w.heap.size+1) wq v (L+k) F∧Below (w.heap.size+1) W wq) (fun v _ _=>L+16 - lenV v)
    case atStart=>exact ⟨0,Nat.zero_le _,by go_num,own,hb⟩
    case round =>
     clear own hb hs hlt hk
     obtain ⟨q,hq,rfl,own,hb⟩:=hrel
     have hs:=hb.size
     rcases own.form with ⟨-,h0⟩ | ⟨g,cap,rfl,-,-,-,-⟩
     · have:=HLZ.out;omega
     by_cases hlt:q<16
     · obtain ⟨i,hi⟩:∃ i:Nat,i=16 - 1 - q:=⟨_,rfl⟩
       have hii:(16 - 1 - (q:Int))=(i:Int):=by omega
       have hi8:i<16:=by omega
       rw [hii]
       have hF8:8≤i→(0:Int)=(F (L+q):Int):=fun h=>by rw [HLZ.out,F3 q (by omega)];rfl
       have hF7:i<8→(((n*8 / 2 ^ (8*i)%256:Nat)):Int)=(F (L+q):Int):=fun h=>by rw [HLZ.out,F4 q i h (by omega)]
       have HI:Hid (i=16 - 1 - q):=hi
       clear hi hii
       by_cases h8:8≤i
       · have hF:Hid ((0:Int)=(F (L+q):Int)):=hF8 h8
         clear hF7 hF8
         go_wp2_with (at_builtin;refine wpList_append_next rfl (.tmp 40) (.tmp 41) rfl (w.heap.size+1) _ (L+q) F _ rfl own rfl hF.out (by omega) (by omega) ?_;intro v3 w3 own3 hb3)
         rcases own3.form with ⟨-,h0⟩ | ⟨g3,cap3,rfl,-,-,-,-⟩
         · omega
         go_roundw
         case rel=>exact ⟨q+1,by omega,by have:=HI.out;go_num,own3.start (by omega),hb.trans hb3⟩
         case measure=>simp [lenV];omega
       · have hF:Hid ((((n*8 / 2 ^ (8*i)%256:Nat)):Int)=(F (L+q):Int)):=hF7 (by omega)
         clear hF7 hF8
         go_wp2_with (at_builtin;go_loud (refine wpList_append_next rfl (.tmp 43) (.tmp 50) rfl (w.heap.size+1) _ (L+q) F _ rfl own rfl (by rw [←hF.out];simp) (by omega) (by omega) ?_);intro v3 w3 own3 hb3)
         rcases own3.form with ⟨-,h0⟩ | ⟨g3,cap3,rfl,-,-,-,-⟩
         · omega
         go_roundw
         case rel=>exact ⟨q+1,by omega,by have:=HI.out;go_num,own3.start (by omega),hb.trans hb3⟩
         case measure=>simp [lenV];omega
     · have hqe:q=16:=by omega
       go_wp2
       go_ret
       refine ⟨_,rfl,?_,?_⟩
       · exact own_base (own.start (by have:=HLZ.out;omega)) (by omega)
       · exact hbZ.trans (hb.mono (by omega))
end Go.Proofs.YtdgkmloabificaaGreatDoor
namespace Go.Proofs.YtdgkmloabificaaGreatDoor
open Go.RowKit
theorem row_new (K:IntKind) (w:World) (n:Nat) (X:Nat→Nat) (t:TypeId):RowAt K (w.alloc (.cells (ints K n X).toArray t)) w.heap.size 0 n X:=RowAt.fresh (fun j hj=>by rw [List.getElem?_toArray,ints_at _ _ _ j hj])
set_option maxRecDepth 20000 in
set_option maxHeartbeats 2000000 in
theorem constants_any (w:World):Calls Tryz.prog 114 #[] w fun e w'=>∃ g,e = .returned (.slice (some ⟨g,0,none⟩) 80 80)∧w.heap.size≤g∧RowAt .u64 w' g 0 80 cubeK∧Below w.heap.size w w':=by
 go_enter Tryz.func114,Tryz.ntmps114
 go_wp2
 go_ret
 refine ⟨_,rfl,Nat.le_refl _,?_,(Below.refl _ _).alloc (Nat.le_refl _) _⟩
 have h:=row_new .u64 w 80 cubeK 47
 have e:(ints .u64 80 cubeK).toArray=#[.int .u64 4794697086780616226,.int .u64 8158064640168781261,.int .u64 13096744586834688815,.int .u64 16840607885511220156,.int .u64 4131703408338449720,.int .u64 6480981068601479193,.int .u64 10538285296894168987,.int .u64 12329834152419229976,.int .u64 15566598209576043074,.int .u64 1334009975649890238,.int .u64 2608012711638119052,.int .u64 6128411473006802146,.int .u64 8268148722764581231,.int .u64 9286055187155687089,.int .u64 11230858885718282805,.int .u64 13951009754708518548,.int .u64 16472876342353939154,.int .u64 17275323862435702243,.int .u64 1135362057144423861,.int .u64 2597628984639134821,.int .u64 3308224258029322869,.int .u64 5365058923640841347,.int .u64 6679025012923562964,.int .u64 8573033837759648693,.int .u64 10970295158949994411,.int .u64 12119686244451234320,.int .u64 12683024718118986047,.int .u64 13788192230050041572,.int .u64 14330467153632333762,.int .u64 15395433587784984357,.int .u64 489312712824947311,.int .u64 1452737877330783856,.int .u64 2861767655752347644,.int .u64 3322285676063803686,.int .u64 5560940570517711597,.int .u64 5996557281743188959,.int .u64 7280758554555802590,.int .u64 8532644243296465576,.int .u64 9350256976987008742,.int .u64 10552545826968843579,.int .u64 11727347734174303076,.int .u64 12113106623233404929,.int .u64 14000437183269869457,.int .u64 14369950271660146224,.int .u64 15101387698204529176,.int .u64 15463397548674623760,.int .u64 17586052441742319658,.int .u64 1182934255886127544,.int .u64 1847814050463011016,.int .u64 2177327727835720531,.int .u64 2830643537854262169,.int .u64 3796741975233480872,.int .u64 4115178125766777443,.int .u64 5681478168544905931,.int .u64 6601373596472566643,.int .u64 7507060721942968483,.int .u64 8399075790359081724,.int .u64 8693463985226723168,.int .u64 9568029438360202098,.int .u64 10144078919501101548,.int .u64 10430055236837252648,.int .u64 11840083180663258601,.int .u64 13761210420658862357,.int .u64 14299343276471374635,.int .u64 14566680578165727644,.int .u64 15097957966210449927,.int .u64 16922976911328602910,.int .u64 17689382322260857208,.int .u64 500013540394364858,.int .u64 748580250866718886,.int .u64 1242879168328830382,.int .u64 1977374033974150939,.int .u64 2944078676154940804,.int .u64 3659926193048069267,.int .u64 4368137639120453308,.int .u64 4836135668995329356,.int .u64 5532061633213252278,.int .u64 6448918945643986474,.int .u64 6902733635092675308,.int .u64 7801388544844847127]:=by kernel_rfl
 rw [e] at h
 exact h
theorem first_any (w:World):Calls Tryz.prog 115 #[] w fun e w'=>∃ g,e = .returned (.slice (some ⟨g,0,none⟩) 8 8)∧w.heap.size≤g∧RowAt .u64 w' g 0 8 squareK∧Below w.heap.size w w':=by
 go_enter Tryz.func115,Tryz.ntmps115
 go_wp2
 go_ret
 exact ⟨_,rfl,Nat.le_refl _,row_new .u64 w 8 squareK 47,(Below.refl _ _).alloc (Nat.le_refl _) _⟩
theorem sliceMid (W:World) (bb ob n cap l m:Nat) (hm:0<m) (h:l+m≤cap):(Instr.sliceAt 22 (.slice (some ⟨bb,ob,none⟩) n cap) (some (.int .i64 l)) (some (.int .i64 ((l:Int)+m))) none).run Tryz.prog W = .ok (.slice (some ⟨bb,ob+l,none⟩) m (cap - l)) W:=by
 have h1:Tryz.prog.underlying 22=some (.slice (Tryz.prog.elem 22)):=by kernel_rfl
 have h2:Tryz.prog.elem 22=5:=by kernel_rfl
 have h3:((sizeOf 5).run Tryz.prog W) = .ok 1 W:=by kernel_rfl
 rw [run_sliceAt_slice W 22 _ _ _ _ h1,run_slice_lh W 22 _ n cap h1 .i64 .i64 l ((l:Int)+m) (by omega) (by omega) (by omega),h2,h3]
 have e2:((l:Int)+m).toNat=l+m:=by omega
 have e3:¬(cap=l):=by omega
 simp [sliced,Addr.add_mid,Option.map,e2,e3]
 try omega
theorem step_append_next64 {ops:Array Oper} {o:Oper} {a:Act} {w:World} {K:Act→World→Prop} {Q:Exit→Act→World→Prop} {E:Prop} (hgd:o.guard=none) (s x:Operand)
 (ho:o.op = .call { callee := .builtin .append,args:=#[s,x],argTypes:=#[132,132] }) (base:Nat)
 (v:Value) (n:Nat) (F:Nat→Nat) (y:Int) (hs:a.eval s=v) (hown:w.ownsRow base 47 1 v n (ints .u64 n F)) (g:Nat) (hg:w.heap.size=g) (hx:a.eval x = .slice (some ⟨g,0,none⟩) 1 1) (hF:y=(F n:Int))
 (hl:n+1≤1000000) (hbase:base≤w.heap.size)
 (h:∀ v' w',w'.ownsRow base 47 1 v' (n+1) (ints .u64 (n+1) F)→Below base w w'→K (a.put o.dst v') w') :
 if Region.wanted o (yielded ops a.tmps)=true then Oper.wp Tryz.prog o a (w.alloc (.cells #[.int .u64 y] 47)) K Q else E:=by
 obtain ⟨i0,hi,hz0,hz1,hz2⟩:=info_parts Tryz.info47
 subst hg
 subst hF
 have hz:base≤(w.alloc (.cells #[.int .u64 (F n:Int)] 47)).heap.size:=by simp only [World.size_alloc];omega
 refine step_append_lies (P:=Tryz.prog) (w:=w.alloc (.cells #[.int .u64 (F n:Int)] 47)) hgd s x 132 ho base 47 i0 (.int .u64 0) 1 8 Tryz.underlying132 hi hz0 hz1 hz2 rfl (by decide) v n _ hs (hown.alloc _) ⟨w.heap.size,0,none⟩ 1 1 [.int .u64 (F n)] hx rfl (one_new _ _ _) (one_cell _ _) (by decide) (by unfold maxLen;omega) (by omega) hz _ rfl ?_
 intro g' cap' w' h1 h2 _ _
 rw [ints_snoc] at h1
 exact h _ w' h1 (below_grown ((Below.refl _ _).alloc hbase _) h2 (hown.alloc _) (Nat.le_refl _) hz)
theorem cell_top (w:World) (cs:Array Value) (t:TypeId) (b j:Nat) (hb:b=w.heap.size):(w.alloc (.cells cs t)).cell? ⟨b,j,none⟩=cs[j]?:=by
 subst hb
 rw [cell_of_row _ _ j _ _ _ (heap_alloc_new w _)]
theorem padN64_mod (n:Nat):∃ T,n+padN rw6 n=T*128∧0<T:=by
 refine ⟨(n+padN rw6 n) / 128,?_⟩
 have e:padN rw6 n=1+(4*64 - 1 - 64 / 4 - n%(2*64))%(2*64)+64 / 4:=rfl
 omega
theorem large_any (w:World):Calls Tryz.prog 81 #[] w fun e w'=>∃ g0 g1 g2 g3,e = .returned (.agg #[.int .i64 64,.int .i64 128,.int .i64 80,.slice (some ⟨g0,0,none⟩) 3 3,.slice (some ⟨g1,0,none⟩) 3 3,.slice (some ⟨g2,0,none⟩) 3 3,.slice (some ⟨g3,0,none⟩) 3 3])∧Lists64 w' g0 g1 g2 g3∧Below w.heap.size w w':=by
 go_enter Tryz.func81,Tryz.ntmps81
 go_wp2
 refine bodyPost_ret (results_cell_mid Tryz.results81 _ _ w.heap.size 0 [.int .i64 64,.int .i64 128,.int .i64 80,.slice (some ⟨w.heap.size+1,0,none⟩) 3 3,.slice (some ⟨w.heap.size+1+1,0,none⟩) 3 3,.slice (some ⟨w.heap.size+1+1+1,0,none⟩) 3 3,.slice (some ⟨w.heap.size+1+1+1+1,0,none⟩) 3 3] _ rfl ?hc Tryz.underlying117 rfl (by kernel_rfl)) rfl ⟨_,_,_,_,rfl,?hl,?hb⟩
 case hc =>
  intro j u hu
  have hj:j<7:=(List.getElem?_eq_some_iff.1 hu).1
  repeat rw [World.cell?_alloc_lt _ _ _ (by simp only [World.size_alloc];omega)]
  rw [cell_top _ _ _ _ _ rfl,Nat.zero_add,←hu]
  match j,hj with
  | 0,_=>rfl
  | 1,_=>rfl
  | 2,_=>rfl
  | 3,_=>rfl
  | 4,_=>rfl
  | 5,_=>rfl
  | 6,_=>rfl
 case hl =>
  constructor <;> ((repeat rw [World.cell?_alloc_lt _ _ _ (by simp only [World.size_alloc];omega)]);rw [cell_top _ _ _ _ _ (by simp only [World.size_alloc])];rfl)
 case hb=>exact (((((Below.refl _ _).alloc (Nat.le_refl _) _).alloc (by simp) _).alloc (by simp;omega) _).alloc (by simp;omega) _).alloc (by simp;omega) _
end Go.Proofs.YtdgkmloabificaaGreatDoor
namespace Go.Proofs.YtdgkmloabificaaGreatDoor
open Go.RowKit
set_option maxRecDepth 20000 in
set_option maxHeartbeats 4000000 in
theorem sumR64_any (g0 g1 g2 g3:Nat) (v:Value) (n:Nat) (bs:Nat→Nat) (hbs:∀ j,bs j<256) (w:World) (hL:Lists64 w g0 g1 g2 g3) (hv:BytesIn w v n bs) (hn:n<140737488355000) :
 Calls Tryz.prog 82 #[(.agg #[.int .i64 64,.int .i64 128,.int .i64 80,.slice (some ⟨g0,0,none⟩) 3 3,.slice (some ⟨g1,0,none⟩) 3 3,.slice (some ⟨g2,0,none⟩) 3 3,.slice (some ⟨g3,0,none⟩) 3 3]),v] w fun e w'=>∃ v',e = .returned v'∧Own w.heap.size w' v' 64 (outB 64 (specS rw6 cubeK squareK n bs))∧Below w.heap.size w w':=by
 have hpad:=fun W' (h:Below w.heap.size w W')=>padded64_any g0 g1 g2 g3 v n bs W' (hv.keep h) hn
 have hzb:=zbox64 w g0 g1 g2 g3
 obtain ⟨F,hF⟩:∃ F,F=cat n bs (padF rw6 n):=⟨_,rfl⟩
 have hFl:∀ j,F j<256:=by rw [hF];exact cat_lt hbs (padF_lt _ _)
 obtain ⟨T,hT,hT0⟩:=padN64_mod n
 have hTb:T*128<140737488355328:=by have:=padN64_le n;omega
 have HS:Hid (specS rw6 cubeK squareK n bs=loopS rw6 cubeK (firstS rw6 squareK) F T):=by
  show specS rw6 cubeK squareK n bs=_
  unfold specS
  rw [←hF,hT,show T*128 / (2*Ru.m rw6)=T from Nat.mul_div_cancel T (by decide)]
 rw [←hF,hT] at hpad
 clear hF hv
 go_enter Tryz.func82,Tryz.ntmps82
 go_wp2_with (first
  | (go_at_call 114;refine (constants_any _).mono ?_;rintro e w1 ⟨gk,rfl,hgk,hrk,hb1⟩;simp only [World.size_alloc] at hgk hb1)
  | (go_at_call 115;refine (first_any _).mono ?_;rintro e w2 ⟨gq,rfl,hgq,hrq,hb2⟩))
 have hs1:=hb1.size
 have hs2:=hb2.size
 simp only [World.size_alloc] at hs1
 have hZ2:ZBox64 w2 w.heap.size g0 g1 g2 g3:=by
  have hc:∀ j,w2.cell? ⟨w.heap.size,j,none⟩=(w.alloc (.cells #[.int .i64 64,.int .i64 128,.int .i64 80,.slice (some ⟨g0,0,none⟩) 3 3,.slice (some ⟨g1,0,none⟩) 3 3,.slice (some ⟨g2,0,none⟩) 3 3,.slice (some ⟨g3,0,none⟩) 3 3] 117)).cell? ⟨w.heap.size,j,none⟩:=fun j=>(hb2.cell (p:=⟨w.heap.size,j,none⟩) (by show w.heap.size<_;omega)).trans (hb1.cell (p:=⟨w.heap.size,j,none⟩) (Nat.lt_succ_self _))
  unfold ZBox64 at *
  simp only [hc]
  exact hzb
 have hgk1:gk<w1.heap.size:=block_lt_of_cell (hrk 0 (by decide)).1
 have hgq2:gq<w2.heap.size:=block_lt_of_cell (hrq 0 (by decide)).1
 have hrk2:RowAt .u64 w2 gk 0 80 cubeK:=hrk.below hb2 hgk1
 have hw2:Below w.heap.size w w2:=((Below.refl _ _).alloc (Nat.le_refl _) _).trans ((hb1.mono (by omega)).trans (hb2.mono (by omega)))
 have hL2:=hL.below hw2
 have hzl:w.heap.size<w2.heap.size:=by omega
 have hgk2:gk<w2.heap.size:=by omega
 clear hrk hb1 hb2 hs1 hs2 hzb hgk1 hgk hgq hL
 obtain ⟨s0,hs0⟩:∃ s0,s0=firstS rw6 squareK:=⟨_,rfl⟩
 have hsl:s0.lt (2 ^ 64):=by rw [hs0];exact firstS_lt rw6 squareK (by decide) squareK_lt
 have hsq:∀ k,k<8→s0.at k=squareK k / 2 ^ (64 - 64):=fun k hk=>by
  rw [hs0]
  match k,hk with
  | 0,_=>rfl
  | 1,_=>rfl
  | 2,_=>rfl
  | 3,_=>rfl
  | 4,_=>rfl
  | 5,_=>rfl
  | 6,_=>rfl
  | 7,_=>rfl
 rw [←hs0] at HS
 clear hs0
 go_loopw [7,8] (fun v i wr=>∃ k:Nat,k≤8∧i = .int .i64 k∧wr.ownsRow w2.heap.size 47 1 v k (ints .u64 k s0.at)∧Below w2.heap.size w2 wr) (fun _ i _=>8 - (intOf i).toNat)
 case atStart=>exact ⟨0,Nat.zero_le _,rfl,World.ownsRow_nil _ _ _ _,Below.refl _ _⟩
 case round =>
  obtain ⟨k,hk,rfl,hown,hbel⟩:=hrel
  have hsr:=hbel.size
  by_cases hlt:k<8
  · have hZ:=hZ2.below hbel
    obtain ⟨z0,z1,z2,z3,z4,z5,z6⟩:=hZ
    have rq:wr.cell? ⟨gq,k,none⟩=some (.int .u64 (squareK k)):=by
     have:=(hrq k hlt).1
     rw [Nat.zero_add] at this
     exact (hbel.cell (p:=⟨gq,k,none⟩) hgq2).trans this
    obtain ⟨qk,hqk⟩:∃ qk,qk=squareK k:=⟨_,rfl⟩
    have HY:Hid (s0.at k=qk / 2 ^ (64 - 64)):=(by rw [hqk];exact hsq k hlt:s0.at k=qk / 2 ^ (64 - 64))
    rw [←hqk] at rq
    clear hqk hpad hFl hrk2 hrq hL2 hZ2
    have hS:∀ w':World,Below w2.heap.size wr w'→∀ b o,b<w2.heap.size→w'.cell? ⟨b,o,none⟩=wr.cell? ⟨b,o,none⟩:=fun w' h b o hb=>h.cell (p:=⟨b,o,none⟩) hb
    have hbd:∀ m,Below wr.heap.size wr (wr.drewN m):=fun m=>below_drewN (Below.refl _ _) m
    have hb0:Below w2.heap.size wr wr.drew:=(Below.refl _ _).drew
    have hki:(0:Int)≤(k:Int)∧(k:Int)<8:=by omega
    have hown0:=own_below hown ((Below.refl _ _).drew:Below wr.heap.size wr wr.drew)
    have hsz0:w2.heap.size≤wr.drew.heap.size:=hsr
    have h00:min (IntKind.u64.wrap (IntKind.i64.wrap 0)).toNat 64=0:=by rfl
    have hy:((qk:Int) / 2 ^ min (IntKind.u64.wrap (IntKind.i64.wrap 0)).toNat 64:Int)=(s0.at k:Int):=by
     try rw [h00]
     rw [HY.out]
     simp
    clear h00
    have HYY:Hid (((qk:Int) / 2 ^ min (IntKind.u64.wrap (IntKind.i64.wrap 0)).toNat 64:Int)=(s0.at k:Int)):=hy
    clear hy
    go_wp2
    go_region_held3 (fun w'=>Below w2.heap.size wr w') (first | assumption | exact Below.alloc (by assumption) (by assumption) _) (first | (refine step_append_next64 rfl (.tmp 20) (.tmp 30) rfl w2.heap.size _ k s0.at _ rfl hown0 _ rfl rfl HYY.out (by omega) hsz0 ?_;intro v' w' hown1 hbx;have hbn:Below w2.heap.size wr w':=hb0.trans hbx))
    clear hS hb0 hbd z0 z1 z2 z3 z4 z5 z6 rq
    go_wp2
    go_roundw
    case rel =>
     first
      | exact ⟨k+1,by omega,by go_num,hown1,hbel.trans hbn⟩
      | (repeat apply Exists.intro
         refine ⟨?_,rfl⟩
         exact ⟨k+1,by omega,by go_num,hown1,hbel.trans hbn⟩)
    case measure=>simp [intOf];omega
  · have hke:k=8:=by omega
    rw [hke] at hown
    clear hke
    obtain ⟨gs,cs,hu7,hgs,hgsl⟩:=hown.form (by decide)
    subst hu7
    have hrs:RowAt .u64 wr gs 0 8 s0.at:=fun j hj=>by
     rw [Nat.zero_add]
     exact ⟨by rw [hown.cellAt j (by omega),ints_at _ _ _ j hj],hown.frozenAt j⟩
    have hwr:Below w.heap.size w wr:=hw2.trans (hbel.mono (by omega))
    have hpad':=hpad wr hwr
    have hZ:=hZ2.below hbel
    obtain ⟨z0,z1,z2,z3,z4,z5,z6⟩:=hZ
    clear hpad hrq hsq hown
    go_wp2_with (go_at_call 116;refine hpad'.mono ?_;rintro e w4 ⟨vp,rfl,ownp,hb4⟩)
    clear z0 z1 z2 z3 z4 z5 z6 hpad'
    rcases ownp.form with ⟨-,h0⟩ | ⟨gp,cp,hvp,hgp,hgpl,hcp,hrp⟩
    · omega
    subst hvp
    obtain ⟨N,hNe⟩:∃ N,N=T*128:=⟨_,rfl⟩
    rw [←hNe] at hcp hrp hTb ⊢
    have hs4:=hb4.size
    have hw4:Below w2.heap.size w2 w4:=hbel.trans (hb4.mono hsr)
    have hww:Below w.heap.size w w4:=hw2.trans (hw4.mono (by omega))
    have hrs4:RowAt .u64 w4 gs 0 8 s0.at:=hrs.below hb4 hgsl
    have hrk4:RowAt .u64 w4 gk 0 80 cubeK:=hrk2.below hw4 hgk2
    have hL4:=hL2.below hw4
    have hZ4:=hZ2.below hw4
    have hk4:gk<w4.heap.size:=by omega
    have hz4:w.heap.size<w4.heap.size:=by omega
    have hgs4:w.heap.size≤gs:=by omega
    have HN:Hid (N=T*128):=hNe
    clear ownp hb4 hw4 hrs hrk2 hL2 hZ2 hbel hs4 hsr hwr hk hlt hNe hw2 hgq2 hgk2 hzl hT hn
    go_loopw [7,10] (fun v i wq=>∃ t P g c:Nat,t≤T∧Hid (P=t*128)∧i = .int .i64 P∧v = .slice (some ⟨g,0,none⟩) 8 c∧RowAt .u64 wq g 0 8 (loopS rw6 cubeK s0 F t).at∧w.heap.size≤g∧Below w4.heap.size w4 wq) (fun _ i _=>N - (intOf i).toNat)
    case atStart=>exact ⟨0,0,gs,cs,Nat.zero_le _,(by omega:0=0*128),rfl,rfl,hrs4,hgs4,Below.refl _ _⟩
    case round =>
     clear hrs4
     obtain ⟨t,P,g,c,ht,HP,rfl,rfl,hrow,hgw,hbq⟩:=hrel
     have hsq4:=hbq.size
     have hgl:g<wr.heap.size:=block_lt_of_cell (hrow 0 (by decide)).1
     have hZ:=hZ4.below hbq
     by_cases hlt:t<T
     · have hPN:P+128≤N:=by have:=HP.out;have:=HN.out;omega
       have hPi:(P:Int)<N:=by omega
       have hblk:∀ W':World,Below wr.heap.size wr W'→Calls Tryz.prog 117 #[(.agg #[.int .i64 64,.int .i64 128,.int .i64 80,.slice (some ⟨g0,0,none⟩) 3 3,.slice (some ⟨g1,0,none⟩) 3 3,.slice (some ⟨g2,0,none⟩) 3 3,.slice (some ⟨g3,0,none⟩) 3 3]),.slice (some ⟨g,0,none⟩) 8 c,.slice (some ⟨gk,0,none⟩) 80 80,.slice (some ⟨gp,P,none⟩) 128 (cp - P)] W' fun e w'=>∃ g' c',e = .returned (.slice (some ⟨g',0,none⟩) 8 c')∧W'.heap.size≤g'∧RowAt .u64 w' g' 0 8 (loopS rw6 cubeK s0 F (t+1)).at∧Below W'.heap.size W' w':=fun W' h=>by
        have hl:=hbq.trans (h.mono hsq4)
        have hh:=blockR64_any cubeK g0 g1 g2 g3 g c gk 80 gp P (cp - P) (loopS rw6 cubeK s0 F t) (loopS_lt (r:=rw6) hsl t) (fun j=>F (P+j)) (fun j=>hFl _) W' (hL4.below hl)
         (fun j hj=>by have:=((hrow.below h hgl) j hj).1;rwa [Nat.zero_add] at this)
         (fun j hj=>by have:=((hrk4.below hl hk4) j hj).1;rwa [Nat.zero_add] at this)
         (fun j hj=>by have:=((hrp.below hl hgpl) (P+j) (by omega)).1;rwa [Nat.zero_add] at this)
        rw [blockR64_eq _ _ (fun j=>hFl _)] at hh
        have e:blockS rw6 cubeK (fun j=>F (P+j)) (loopS rw6 cubeK s0 F t)=loopS rw6 cubeK s0 F (t+1):=by
         rw [HP.out];rfl
        rw [e] at hh
        exact hh
       have hsm:∀ W:World,(Instr.sliceAt 22 (.slice (some ⟨gp,0,none⟩) N cp) (some (.int .i64 P)) (some (.int .i64 ((P:Int)+128))) none).run Tryz.prog W = .ok (.slice (some ⟨gp,P,none⟩) 128 (cp - P)) W:=fun W=>by
        have h:=sliceMid W gp 0 N cp P 128 (by decide) (by omega)
        rw [Nat.zero_add] at h
        exact h
       have hw64:IntKind.i64.wrap ((P:Int)+128)=(P:Int)+128:=by simp only [IntKind.wrap_i64];omega
       have b1:(0:Int)≤(P:Int):=by omega
       have b2:(P:Int)≤(P:Int)+128:=by omega
       have b3:(P:Int)+128≤(cp:Int):=by omega
       obtain ⟨z0,z1,z2,z3,z4,z5,z6⟩:=hZ
       have hS:∀ w':World,Below wr.heap.size wr w'→∀ b o,b<wr.heap.size→w'.cell? ⟨b,o,none⟩=wr.cell? ⟨b,o,none⟩:=fun w' h b o hb=>h.cell (p:=⟨b,o,none⟩) hb
       have hb0:Below wr.heap.size wr wr.drew:=(Below.refl _ _).drew
       have m0:w.heap.size<wr.heap.size:=by omega
       have hPb:(P:Int)+128<140737488355328:=by omega
       clear hrow hL4 hZ4 hrk4 hrp hFl hsl
       go_wp2
       go_region_held3 (fun w'=>Below wr.heap.size wr w') (first | assumption) (first
        | (go_at_call 117;refine (hblk _ (by assumption)).mono ?_;rintro e w' ⟨g',c',rfl,hg',hrow',hb⟩;have hbn:=below_next (W:=wr) (by assumption) hb))
       have zz:=(hbn.cell (p:=⟨w.heap.size,1,none⟩) m0).trans z1
       clear hblk hS hb0 z0 z1 z2 z3 z4 z5 z6 hsm b1 b2 b3 hw64
       go_wp2
       go_roundw
       case rel =>
        have hP':P+128=(t+1)*128:=by have:=HP.out;omega
        have hg2:w.heap.size≤g':=by simp only [World.size_drew] at hg';omega
        exact ⟨t+1,P+128,g',c',by omega,hP',by go_num,rfl,hrow',hg2,hbq.trans (hbn.mono hsq4)⟩
       case measure=>simp [intOf];omega
     · have hte:t=T:=by omega
       have hPN:P=N:=by have:=HP.out;have:=HN.out;rw [hte] at *;omega
       rw [hte] at hrow
       obtain ⟨x,hxe⟩:∃ x,x=loopS rw6 cubeK s0 F T:=⟨_,rfl⟩
       have HX:Hid (x=loopS rw6 cubeK s0 F T):=hxe
       rw [←hxe] at hrow
       clear hxe hte hL4 hZ4 hrk4 hrp hFl hsl
       obtain ⟨z0,z1,z2,z3,z4,z5,z6⟩:=id hZ
       obtain ⟨Wq,hWq⟩:∃ W,W=wr:=⟨_,rfl⟩
       subst hWq
       go_wp2
       clear z0 z1 z2 z3 z4 z5 z6
       go_loopw [11,12] (fun o i wx=>∃ k:Nat,k≤8∧i = .int .i64 k∧Own Wq.heap.size wx o (k*8) (outB 64 x)∧Below Wq.heap.size Wq wx) (fun _ i _=>8 - (intOf i).toNat)
       case atStart=>exact ⟨0,Nat.zero_le _,rfl,(Own.nil _ _ _).start (by omega),Below.refl _ _⟩
       case round =>
        clear hPN hlt
        obtain ⟨k,hk,rfl,own,hb⟩:=hrel
        have hsx:=hb.size
        by_cases hlt:k<8
        · obtain ⟨z0,z1,z2,z3,z4,z5,z6⟩:=hZ.below hb
          go_wp2
          clear z0 z1 z2 z3 z4 z5 z6
          have hd:decide ((k:Int)<8)=true:=decide_eq_true (by omega)
          rw [hd]
          clear hd
          go_loopw [11,13] (fun o m wy=>∃ t:Nat,t≤8∧m = .int .i64 (64 - 8 - 8*(t:Int))∧Own Wq.heap.size wy o (k*8+t) (outB 64 x)∧Below Wq.heap.size Wq wy) (fun o _ _=>k*8+8 - lenV o)
          case atStart=>exact ⟨0,Nat.zero_le _,by go_num,own,hb⟩
          case round =>
           clear own hb hsx
           obtain ⟨q,hq,rfl,own,hb⟩:=hrel
           have hsx:=hb.size
           have hc:wr.cell? ⟨g,k,none⟩=some (.int .u64 (x.at k)):=by have:=((hrow.below hb hgl) k hlt).1;rwa [Nat.zero_add] at this
           by_cases hlq:q<8
           · obtain ⟨m,hm⟩:∃ m:Nat,m=64 - 8 - 8*q:=⟨_,rfl⟩
             have hmi:(64 - 8 - 8*(q:Int))=(m:Int):=by omega
             have hF:Hid (((x.at k / 2 ^ m%256:Nat):Int)=(outB 64 x (k*8+q):Int)):=by
              show ((x.at k / 2 ^ m%256:Nat):Int)=(outB 64 x (k*8+q):Int)
              unfold outB
              rw [show (k*8+q) / (64 / 8)=k by omega,show 64 - 8 - (k*8+q)%(64 / 8)*8=m by omega]
             have hlen:Hid (lenV u11=k*8+q):=by
              show lenV u11=k*8+q
              rcases own.form with ⟨rfl,h0⟩ | ⟨_,_,rfl,_⟩
              · rw [h0];rfl
              · rfl
             have HM:Hid (m=64 - 8 - 8*q):=hm
             have hml:m<64:=by omega
             rw [hmi]
             clear hm hmi
             go_wp2_with (at_builtin;refine wpList_append_next rfl (.tmp 65) (.tmp 74) rfl Wq.heap.size _ (k*8+q) (outB 64 x) _ rfl own rfl (by rw [←hF.out];simp) (by omega) hsx ?_;intro v3 w3 own3 hb3)
             have hl3:lenV v3=k*8+q+1:=by
              rcases own3.form with ⟨_,h0⟩ | ⟨_,_,rfl,_⟩
              · omega
              · rfl
             go_roundw
             case rel=>exact ⟨q+1,by omega,by have:=HM.out;go_num,own3.start (by omega),hb.trans hb3⟩
             case measure=>have:=hlen.out;omega
           · have hqe:q=8:=by omega
             go_wp2
             go_roundw
             case rel=>exact ⟨k+1,by omega,by go_num,own.start (by omega),hb⟩
             case measure=>simp [intOf];omega
        · have hke:k=8:=by omega
          go_wp2
          go_ret
          rw [HS.out,←HX.out]
          exact ⟨_,rfl,own_base (own.start (by omega)) (by omega),hww.trans ((hbq.trans (hb.mono (by omega))).mono (by omega))⟩
set_option maxHeartbeats 1000000 in
theorem rSum512_any (v:Value) (n:Nat) (bs:Nat→Nat) (hbs:∀ j,bs j<256) (w:World) (hv:BytesIn w v n bs) (hn:n<140737488355000) :
 Calls Tryz.prog 39 #[v] w fun e w'=>∃ v',e = .returned v'∧Own w.heap.size w' v' 64 (outB 64 (specS rw6 cubeK squareK n bs))∧Below w.heap.size w w':=by
 have hk:∀ (w1:World) (g0 g1 g2 g3:Nat),Lists64 w1 g0 g1 g2 g3→Below w.heap.size w w1→Calls Tryz.prog 82 #[(.agg #[.int .i64 64,.int .i64 128,.int .i64 80,.slice (some ⟨g0,0,none⟩) 3 3,.slice (some ⟨g1,0,none⟩) 3 3,.slice (some ⟨g2,0,none⟩) 3 3,.slice (some ⟨g3,0,none⟩) 3 3]),v] (w1.alloc (.cells #[.int .i64 64,.int .i64 128,.int .i64 80,.slice (some ⟨g0,0,none⟩) 3 3,.slice (some ⟨g1,0,none⟩) 3 3,.slice (some ⟨g2,0,none⟩) 3 3,.slice (some ⟨g3,0,none⟩) 3 3] 117)) fun e w'=>∃ v',e = .returned v'∧Own w.heap.size w' v' 64 (outB 64 (specS rw6 cubeK squareK n bs))∧Below w.heap.size w w':=fun w1 g0 g1 g2 g3 hL hb=>by
  have hb2:=hb.alloc hb.size (.cells #[.int .i64 64,.int .i64 128,.int .i64 80,.slice (some ⟨g0,0,none⟩) 3 3,.slice (some ⟨g1,0,none⟩) 3 3,.slice (some ⟨g2,0,none⟩) 3 3,.slice (some ⟨g3,0,none⟩) 3 3] 117)
  refine (sumR64_any g0 g1 g2 g3 v n bs hbs (w1.alloc (.cells #[.int .i64 64,.int .i64 128,.int .i64 80,.slice (some ⟨g0,0,none⟩) 3 3,.slice (some ⟨g1,0,none⟩) 3 3,.slice (some ⟨g2,0,none⟩) 3 3,.slice (some ⟨g3,0,none⟩) 3 3] 117)) (hL.below ((Below.refl _ _).alloc (Nat.le_refl _) _)) (hv.keep hb2) hn).mono ?_
  rintro e w' ⟨v',rfl,ho,hb'⟩
  exact ⟨v',rfl,own_base ho hb2.size,hb2.trans (hb'.mono hb2.size)⟩
 clear hv
 go_enter Tryz.func39,Tryz.ntmps39
 go_wp2_with (first
  | (go_at_call 81;refine (large_any _).mono ?_;rintro e w1 ⟨g0,g1,g2,g3,rfl,hL,hb1⟩;replace hk:=hk w1 g0 g1 g2 g3 hL hb1)
  | (go_at_call 82;refine hk.mono ?_;rintro e w' ⟨v',rfl,ho,hb'⟩))
 go_ret
 exact ⟨v',rfl,ho,hb'⟩
end Go.Proofs.YtdgkmloabificaaGreatDoor
namespace Go.Proofs.YtdgkmloabificaaGreatDoor
open Go.RowKit
def OwnI (base:Nat) (w:World) (v:Value) (n:Nat) (X:Nat→Nat):Prop:=w.ownsRow base 3 1 v n (ints .i64 n X)
theorem OwnI.below {base:Nat} {w w':World} {v:Value} {n:Nat} {X:Nat→Nat} (h:OwnI base w v n X) (hb:Below w.heap.size w w'):OwnI base w' v n X:=own_below h hb
theorem OwnI.alloc {base:Nat} {w:World} {v:Value} {n:Nat} {X:Nat→Nat} (h:OwnI base w v n X) (o:Obj):OwnI base (w.alloc o) v n X:=h.below ((Below.refl _ _).alloc (Nat.le_refl _) _)
theorem OwnI.congr {base:Nat} {w:World} {v:Value} {n:Nat} {X Y:Nat→Nat} (h:OwnI base w v n X) (e:∀ j,j<n→X j=Y j):OwnI base w v n Y:=by
 unfold OwnI;rw [←ints_congr _ _ _ _ e];exact h
theorem OwnI.form {base:Nat} {w:World} {v:Value} {n:Nat} {X:Nat→Nat} (h:OwnI base w v n X):(v = .slice none 0 0∧n=0)∨∃ g cap,v = .slice (some ⟨g,0,none⟩) n cap∧base≤g∧g<w.heap.size∧n≤cap∧RowAt .i64 w g 0 n X:=by
 rcases h.2 with hv | ⟨g,cap,cur,rfl,hb,hg,hn,_⟩
 · exact .inl hv
 · refine .inr ⟨g,cap,rfl,hb,(h.lt g rfl).2,hn,fun j hj => ?_⟩
   rw [Nat.zero_add]
   exact ⟨by rw [World.ownsRow.cellAt h j (by omega),ints_at _ _ _ j hj],World.ownsRow.frozenAt h j⟩
theorem OwnI.nil (base:Nat) (w:World) (X:Nat→Nat):OwnI base w (.slice none 0 0) 0 X:=World.ownsRow_nil w base _ _
theorem infoInt:(Tryz.prog.info? 3).map (fun i=>(i.zero,i.size,i.bytes))=some (some (.int .i64 0),1,8):=by kernel_rfl
theorem wpList_append_nextI {w:World} {ops:Array Oper} {rest:List Oper} {o:Oper} {a:Act} {Q:Exit→Act→World→Prop} (hgd:o.guard=none) (s x:Operand)
 (ho:o.op = .call { callee := .builtin .append,args:=#[s,x],argTypes:=#[90,90] }) (base:Nat)
 (v:Value) (n:Nat) (F:Nat→Nat) (y:Int) (hs:a.eval s=v) (hown:OwnI base w v n F) (hx:a.eval x = .slice (some ⟨w.heap.size,0,none⟩) 1 1) (hF:y=(F n:Int))
 (hl:n+1≤100000) (hbase:base≤w.heap.size)
 (h:∀ v' w',OwnI base w' v' (n+1) F→Below base w w'→wpList Tryz.prog ops Q rest (a.put o.dst v') w'):wpList Tryz.prog ops Q (o :: rest) a (w.alloc (.cells #[.int .i64 y] 3)):=by
 obtain ⟨i0,hi,hz0,hz1,hz2⟩:=info_parts infoInt
 have hb:Below base w (w.alloc (.cells #[.int .i64 y] 3)):=(Below.refl _ _).alloc hbase _
 have hz:base≤(w.alloc (.cells #[.int .i64 y] 3)).heap.size:=by simp only [World.size_alloc];omega
 refine wpList_append_own_at (w:=w.alloc (.cells #[.int .i64 y] 3)) hgd s x 90 ho base 3 i0 (.int .i64 0) 1 8 Tryz.underlying90 hi hz0 hz1 hz2 rfl (by decide) v n _ hs (hown.alloc _) ⟨w.heap.size,0,none⟩ 1 1 [.int .i64 y] hx rfl (one_new w (.int .i64 y) 3) (one_cell .i64 y) (by unfold maxLen;omega) (by omega) hz ?_
 · intro v' w' h1 h2 _ _
   refine h v' w' ?_ (below_grown hb h2 (hown.alloc _) (Nat.le_refl _) hz)
   unfold OwnI
   have e:ints .i64 (n+1) F=ints .i64 n F ++ [.int .i64 y]:=by
    rw [hF]
    unfold ints
    rw [List.range_succ,List.map_append]
    rfl
   rw [e]
   exact h1
end Go.Proofs.YtdgkmloabificaaGreatDoor
namespace Go.Proofs.YtdgkmloabificaaGreatDoor
open Go.RowKit
theorem i64_and (a b:Nat) (ha:a<9223372036854775808) (hb:b<9223372036854775808):bits .and .i64 (a:Int) (b:Int)=((a &&& b:Nat):Int):=by
 have hx:a &&& b≤a:=Nat.and_le_left
 show IntKind.i64.wrap ((BitVec.ofInt 64 (a:Int) &&& BitVec.ofInt 64 (b:Int)).toNat:Int)=_
 rw [BitVec.toNat_and,ofInt_u64 a (by omega),ofInt_u64 b (by omega),IntKind.wrap_i64]
 omega
theorem i64_and255 (a:Nat) (ha:a<9223372036854775808):bits .and .i64 (a:Int) 255=((a%256:Nat):Int):=by
 have h:=i64_and a 255 ha (by decide)
 rw [Nat.and_two_pow_sub_one_eq_mod a 8] at h
 exact h
theorem i64_and1 (a:Nat) (ha:a<9223372036854775808):bits .and .i64 (a:Int) 1=((a%2:Nat):Int):=by
 have h:=i64_and a 1 ha (by decide)
 rw [Nat.and_two_pow_sub_one_eq_mod a 1] at h
 exact h
def zi (n:Nat):Array Value:=Array.replicate n (.int .i64 0)
theorem zi_at (n j:Nat) (h:j<n):(zi n)[j]? = some (.int .i64 0):=by simp [zi,h]
theorem made_zi (n:Nat):madeCells (Value.int .i64 0).cells (n*1)=zi n:=by
 apply Array.ext_getElem?
 intro j
 by_cases h:j<n
 · rw [zi_at n j h];simp [madeCells,Value.cells,h,Nat.mod_one]
 · simp [madeCells,zi,Value.cells,h]
theorem make_ints (W:World) (n:Nat) (l:Int) (hl:l=(n:Int)) (hn:n≤1000000):(Instr.makeSlice 90 (.int .i64 l) (.int .i64 l)).run Tryz.prog W = .ok (.slice (some ⟨W.heap.size,0,none⟩) n n) (W.alloc (.cells (zi n) 3)):=by
 subst hl
 obtain ⟨i0,hi,hz0,hz1,hz2⟩:=info_parts infoInt
 have:=run_makeSlice (P:=Tryz.prog) W 90 3 i0 (.int .i64 0) Tryz.underlying90 hi hz0 .i64 .i64 n n (by omega) (Int.le_refl _) (by rw [hz1];simp;omega) (by rw [hz2];omega) (by omega)
 rw [this,hz1]
 simp only [Int.toNat_natCast,made_zi]
theorem ofB_upd (X:Nat→Nat) (i v:Nat):ofB (upd X i v) i=ofB X i:=ofB_congr i (fun j hj=>by unfold upd;rw [if_neg (by omega)])
set_option maxRecDepth 20000 in
set_option maxHeartbeats 2000000 in
theorem rless_any (ga gb ca cb:Nat) (X Y:Nat→Nat) (hX:∀ j,X j<256) (hY:∀ j,Y j<256) (w:World) (ha:RowAt .i64 w ga 0 34 X) (hb:RowAt .i64 w gb 0 34 Y) :
 Calls Tryz.prog 100 #[.slice (some ⟨ga,0,none⟩) 34 ca,.slice (some ⟨gb,0,none⟩) 34 cb] w fun e w'=>∃ (Z:Nat→Nat) (b:Nat),b≤1∧e = .returned (.tuple #[.slice (some ⟨w.heap.size,0,none⟩) 34 34,.bool (decide (b=0))])∧RowAt .i64 w' w.heap.size 0 34 Z∧(∀ j,Z j<256)∧ofB Z 34+ofB Y 34=ofB X 34+256 ^ 34*b∧Below w.heap.size w w':=by
 have hmk:=make_ints w 34 34 rfl (by decide)
 have hal:ga<w.heap.size:=block_lt_of_cell (ha 0 (by decide)).1
 have hbl:gb<w.heap.size:=block_lt_of_cell (hb 0 (by decide)).1
 have hb0:Below w.heap.size w (w.alloc (.cells (zi 34) 3)):=(Below.refl _ _).alloc (Nat.le_refl _) _
 have hrow0:RowAt .i64 (w.alloc (.cells (zi 34) 3)) w.heap.size 0 34 (fun _=>0):=RowAt.fresh (fun j hj=>zi_at 34 j hj)
 go_enter Tryz.func100,Tryz.ntmps100
 go_wp2_with (rw [hmk])
 go_loopw [8,7] (fun i c wr=>∃ (k b:Nat) (Z:Nat→Nat),k≤34∧i = .int .i64 k∧c = .int .i64 b∧b≤1∧RowAt .i64 wr w.heap.size 0 34 Z∧(∀ j,Z j<256)∧ofB Z k+ofB Y k=ofB X k+256 ^ k*b∧Below w.heap.size w wr) (fun i _ _=>34 - (intOf i).toNat)
 case atStart=>exact ⟨0,0,fun _=>0,by decide,rfl,rfl,by decide,hrow0,fun _=>Nat.zero_lt_succ _,by simp [ofB],hb0⟩
 case round =>
  clear hrow0 hb0 hmk
  obtain ⟨k,b,Z,hk,rfl,rfl,hb1,hrow,hZ,hinv,hbel⟩:=hrel
  by_cases hlt:k<34
  · have ra:=(hbel.cell (p:=⟨ga,0+k,none⟩) hal).trans (ha k hlt).1
    have rb:=(hbel.cell (p:=⟨gb,0+k,none⟩) hbl).trans (hb k hlt).1
    obtain ⟨rz,fz⟩:=hrow k hlt
    rw [Nat.zero_add] at ra rb rz fz
    have hx:=hX k
    have hy:=hY k
    have hi':=Hid.mk' hinv
    clear hinv
    have key:∀ (u b':Nat),u<256→b'≤1→u+Y k+b=X k+256*b'→∃ (k' b'':Nat) (Z':Nat→Nat),k'=k+1∧b''=b'∧Z'=upd Z k u∧(∀ j,Z' j<256)∧ofB Z' (k+1)+ofB Y (k+1)=ofB X (k+1)+256 ^ (k+1)*b':=fun u b' hu hb' e=>by
     refine ⟨_,_,_,rfl,rfl,rfl,fun j => ?_,?_⟩
     · unfold upd;split
       · exact hu
       · exact hZ j
     · have h1:=hi'.out
       rw [ofB,ofB,ofB,ofB_upd,show upd Z k u k=u by unfold upd;rw [if_pos rfl],Nat.pow_succ]
       generalize 256 ^ k=P at *
       have e2:P*(u+Y k+b)=P*(X k+256*b'):=by rw [e]
       rw [Nat.mul_add,Nat.mul_add,Nat.mul_add,←Nat.mul_assoc] at e2
       omega
    by_cases hneg:X k<Y k+b
    · have hd:((X k:Int) - (Y k:Int) - (b:Int))<0:=by omega
      obtain ⟨_,_,Z',rfl,rfl,rfl,hZ',hinv'⟩:=key (X k+256 - Y k - b) 1 (by omega) (by decide) (by omega)
      have hin2:=Hid.mk' hinv'
      clear key hinv'
      go_wp2
      go_region
      go_wp2
      go_roundw
      case rel =>
       have h1:=(hrow.drew.set (i:=k) hlt (v:=(X k:Int) - (Y k:Int) - (b:Int)+256) (u:=X k+256 - Y k - b) (by omega))
       rw [Nat.zero_add] at h1
       exact ⟨k+1,1,_,by omega,by go_num,rfl,by decide,h1,hZ',hin2.out,(hbel.drew).setCell (Nat.le_refl _) _⟩
      case measure=>simp [intOf];omega
    · have hd:¬((X k:Int) - (Y k:Int) - (b:Int))<0:=by omega
      obtain ⟨_,_,Z',rfl,rfl,rfl,hZ',hinv'⟩:=key (X k - Y k - b) 0 (by omega) (by decide) (by omega)
      have hin2:=Hid.mk' hinv'
      clear key hinv'
      go_wp2
      go_region
      go_wp2
      go_roundw
      case rel =>
       have h1:=(hrow.drew.set (i:=k) hlt (v:=(X k:Int) - (Y k:Int) - (b:Int)) (u:=X k - Y k - b) (by omega))
       rw [Nat.zero_add] at h1
       exact ⟨k+1,0,_,by omega,by go_num,rfl,by decide,h1,hZ',hin2.out,(hbel.drew).setCell (Nat.le_refl _) _⟩
      case measure=>simp [intOf];omega
  · have hke:k=34:=by omega
    subst hke
    have hi':=Hid.mk' hinv
    clear hinv
    by_cases hb0:b=0
    · subst hb0
      go_wp2
      go_ret2
      exact ⟨Z,0,by decide,rfl,hrow,hZ,hi'.out,hbel⟩
    · obtain rfl:b=1:=by omega
      go_wp2
      go_ret2
      exact ⟨Z,1,by decide,rfl,hrow,hZ,hi'.out,hbel⟩
end Go.Proofs.YtdgkmloabificaaGreatDoor
namespace Go.Proofs.YtdgkmloabificaaGreatDoor
open Go.RowKit
def ordP (j:Nat):Nat:=if j<16 then byt oL j else 0
theorem ordP_upd (j:Nat) (hj:j<34):upd ordP 31 16 j=byt oL j:=by
 have h:∀ j,j<34→upd ordP 31 16 j=byt oL j:=by decide +kernel
 exact h j hj
theorem ordC:(ints .i64 16 ordP)=[.int .i64 237,.int .i64 211,.int .i64 245,.int .i64 92,.int .i64 26,.int .i64 99,.int .i64 18,.int .i64 88,.int .i64 214,.int .i64 156,.int .i64 247,.int .i64 162,.int .i64 222,.int .i64 249,.int .i64 222,.int .i64 20]:=by kernel_rfl
theorem ordP_z (j:Nat) (h:16≤j):ordP j=0:=by unfold ordP;rw [if_neg (by omega)]
theorem OwnI.some {base:Nat} {w:World} {v:Value} {n:Nat} {X:Nat→Nat} (h:OwnI base w v (n+1) X):∃ g cap,v = .slice (.some ⟨g,0,none⟩) (n+1) cap:=by
 rcases h.form with ⟨_,h⟩ | ⟨g,cap,h,_⟩
 · omega
 · exact ⟨g,cap,h⟩
def lenV4:Value→Nat
 | .slice _ n _=>n
 | _=>0
set_option maxRecDepth 20000 in
set_option maxHeartbeats 2000000 in
theorem rorder_any (w:World):Calls Tryz.prog 99 #[] w fun e w'=>∃ g cap,e = .returned (.slice (some ⟨g,0,none⟩) 34 cap)∧w.heap.size≤g∧g<w'.heap.size∧RowAt .i64 w' g 0 34 (byt oL)∧Below w.heap.size w w':=by
 have own0:OwnI w.heap.size (w.alloc (.cells (ints .i64 16 ordP).toArray 3)) (.slice (some ⟨w.heap.size,0,none⟩) 16 16) 16 ordP:=by
  have:=World.ownsRow_lit (base:=w.heap.size) (e:=3) (size:=1) w (ints .i64 16 ordP).toArray 16 (Nat.le_refl _) (by decide) (by kernel_rfl)
  exact this
 rw [ordC] at own0
 go_enter Tryz.func99,Tryz.ntmps99
 go_wp2
 go_loopw [1] (fun v wr=>∃ n g cap:Nat,16≤n∧n≤34∧v = .slice (some ⟨g,0,none⟩) n cap∧OwnI w.heap.size wr v n ordP∧Below w.heap.size w wr) (fun v _=>34 - lenV4 v)
 case atStart=>exact ⟨16,w.heap.size,16,by decide,by decide,rfl,own0,(Below.refl _ _).alloc (Nat.le_refl _) _⟩
 case round =>
  clear own0
  obtain ⟨n,g,cap,h16,h34,rfl,own,hb⟩:=hrel
  by_cases hlt:n<34
  · have hni:(n:Int)<34:=by omega
    have hs:=hb.size
    have hz:(0:Int)=(ordP n:Int):=by rw [ordP_z n h16];rfl
    have HZ:=Hid.mk' hz
    clear hz
    go_wp2_with (at_builtin;refine wpList_append_nextI rfl (.tmp 6) (.tmp 7) rfl w.heap.size _ n ordP 0 rfl own rfl HZ.out (by omega) hs ?_;intro v' w' own' hb';(obtain ⟨g',cap',rfl⟩:=own'.some);clear own)
    go_roundw
    case rel=>exact ⟨n+1,g',cap',by omega,by omega,rfl,own',hb.trans hb'⟩
    case measure=>simp [lenV4];omega
  · have hke:n=34:=by omega
    subst hke
    obtain ⟨g2,cap2,e,hg,hgl,hc,hr⟩:=own.form.resolve_left (fun h=>by omega)
    cases e
    obtain ⟨r31,f31⟩:=hr 31 (by decide)
    rw [Nat.zero_add] at r31 f31
    clear own
    go_wp2
    go_ret
    have h1:=hr.set (i:=31) (by decide) (v:=16) (u:=16) rfl
    rw [Nat.zero_add] at h1
    exact ⟨g,cap,rfl,hg,by simpa using hgl,h1.congr (fun j hj=>ordP_upd j hj),hb.setCell hg _⟩
end Go.Proofs.YtdgkmloabificaaGreatDoor
namespace Go.Proofs.YtdgkmloabificaaGreatDoor
open Go.RowKit
theorem bit_of (M s:Nat) (hs:s<8):M / 2 ^ s=2*(M / 2 ^ (s+1))+M%256 / 2 ^ s%2:=by
 have h:s=0∨s=1∨s=2∨s=3∨s=4∨s=5∨s=6∨s=7:=by omega
 rcases h with rfl | rfl | rfl | rfl | rfl | rfl | rfl | rfl <;> simp only [Nat.reducePow,Nat.reduceAdd] <;> omega
theorem next_bit (D:Nat→Nat) (hD:∀ j,D j<256) (n i s:Nat) (hi:i<n) (hs:s<8):ofB D n / 2 ^ (8*i+s)=2*(ofB D n / 2 ^ (8*i+(s+1)))+D i / 2 ^ s%2:=by
 have e:=byt_ofB D hD n i hi
 unfold byt at e
 rw [←e,Nat.pow_add,Nat.pow_add,←Nat.div_div_eq_div_mul,←Nat.div_div_eq_div_mul,←pow_b]
 exact bit_of _ s hs
theorem twice_mod (A c:Nat):(2*A+c)%oL=(2*(A%oL)+c)%oL:=by
 rw [Nat.add_mod,Nat.mul_mod]
 rw [Nat.add_mod (2*(A%oL)),Nat.mul_mod 2 (A%oL),Nat.mod_mod]
theorem dbl_step {P a b z c:Nat} {v:Nat} (h:a+P*c=b) (hv:v=2*z+c):a+P*(v%256)+P*256*(v / 256)=b+2*(P*z):=by
 have e:v%256+256*(v / 256)=v:=Nat.mod_add_div v 256
 have e2:P*(v%256)+P*256*(v / 256)=P*v:=by rw [Nat.mul_assoc,←Nat.mul_add,e]
 have e3:P*v=2*(P*z)+P*c:=by rw [hv,Nat.mul_add,Nat.mul_left_comm]
 omega
theorem bit_and (d s:Nat) (hd:d<256):bits .and .i64 ((d:Int) / 2 ^ s) 1=((d / 2 ^ s%2:Nat):Int):=by
 have e:(d:Int) / 2 ^ s=((d / 2 ^ s:Nat):Int):=by simp
 rw [e]
 exact i64_and1 _ (by have:=Nat.div_le_self d (2 ^ s);omega)
theorem dbl_fin {x r c C y:Nat} (h:x+256 ^ 34*C=2*y+c) (hy:y=r) (hr:r<oL) (hc:c≤1) (hC:C≤1) (hx:x<256 ^ 34):x=2*r+c:=by
 subst hy
 have:C=0∨C=1:=by omega
 unfold oL at hr
 simp only [Nat.reducePow] at h hx
 omega
theorem rless_ge (ga gb ca cb:Nat) (X Y:Nat→Nat) (hX:∀ j,X j<256) (hY:∀ j,Y j<256) (x y:Nat) (hx:ofB X 34=x) (hy:ofB Y 34=y) (h:y≤x) (w:World) (ha:RowAt .i64 w ga 0 34 X) (hb:RowAt .i64 w gb 0 34 Y) :
 Calls Tryz.prog 100 #[.slice (some ⟨ga,0,none⟩) 34 ca,.slice (some ⟨gb,0,none⟩) 34 cb] w fun e w'=>∃ Z:Nat→Nat,e = .returned (.tuple #[.slice (some ⟨w.heap.size,0,none⟩) 34 34,.bool true])∧RowAt .i64 w' w.heap.size 0 34 Z∧(∀ j,Z j<256)∧ofB Z 34=x - y∧Below w.heap.size w w' :=
 (rless_any ga gb ca cb X Y hX hY w ha hb).mono fun e w' ⟨Z,b,hb1,he,hr,hZ,hv,hbel⟩=>by
  have hl:=ofB_lt Z hZ 34
  have hb0:b=0:=by
   rcases (by omega:b=0∨b=1) with h0 | h0
   · exact h0
   · subst h0;rw [hx,hy] at hv;omega
  subst hb0
  exact ⟨Z,he,hr,hZ,by rw [hx,hy] at hv;omega,hbel⟩
theorem rless_lt (ga gb ca cb:Nat) (X Y:Nat→Nat) (hX:∀ j,X j<256) (hY:∀ j,Y j<256) (x y:Nat) (hx:ofB X 34=x) (hy:ofB Y 34=y) (h:x<y) (w:World) (ha:RowAt .i64 w ga 0 34 X) (hb:RowAt .i64 w gb 0 34 Y) :
 Calls Tryz.prog 100 #[.slice (some ⟨ga,0,none⟩) 34 ca,.slice (some ⟨gb,0,none⟩) 34 cb] w fun e w'=>e = .returned (.tuple #[.slice (some ⟨w.heap.size,0,none⟩) 34 34,.bool false])∧Below w.heap.size w w' :=
 (rless_any ga gb ca cb X Y hX hY w ha hb).mono fun e w' ⟨Z,b,hb1,he,hr,hZ,hv,hbel⟩=>by
  have hb0:b=1:=by
   rcases (by omega:b=0∨b=1) with h0 | h0
   · subst h0;rw [hx,hy] at hv;omega
   · exact h0
  subst hb0
  exact ⟨he,hbel⟩
structure Dg (w:World) (g r:Nat) (Z:Nat→Nat):Prop where
 row:RowAt .i64 w g 0 34 Z
 dig:∀ j,Z j<256
 val:ofB Z 34=r
theorem Dg.below {B:Nat} {w w':World} {g r:Nat} {Z:Nat→Nat} (h:Dg w g r Z) (hb:Below B w w') (hB:g<B):Dg w' g r Z:=⟨h.row.below hb hB,h.dig,h.val⟩
theorem ord_val:ofB (byt oL) 34=oL:=by rw [ofB_byt];decide
set_option maxRecDepth 20000 in
set_option maxHeartbeats 8000000 in
theorem rrest_at (xo:Option Addr) (n cd:Nat) (D:Nat→Nat) (hD:∀ j,D j<256) (hn:n≤1000) (w:World) (hd:∀ W,Below w.heap.size w W→∀ j,j<n→∃ gd,xo=some ⟨gd,0,none⟩∧W.cell? ⟨gd,j,none⟩=some (.int .i64 (D j))) :
 Calls Tryz.prog 59 #[.slice xo n cd] w fun e w'=>∃ v,e = .returned v∧BytesIn w' v 32 (byt (ofB D n%oL))∧Below w.heap.size w w':=by
 have hmk:=make_ints w 34 34 rfl (by decide)
 obtain ⟨W,hW⟩:∃ W,W=w.alloc (.cells (zi 34) 3):=⟨_,rfl⟩
 have hbW:Below w.heap.size w W:=by rw [hW];exact (Below.refl _ _).alloc (Nat.le_refl _) _
 have hWs:W.heap.size=w.heap.size+1:=by rw [hW];simp
 have hx0:RowAt .i64 W w.heap.size 0 34 (fun _=>0):=by rw [hW];exact RowAt.fresh (fun j hj=>zi_at 34 j hj)
 rw [←hW] at hmk
 clear hW
 have co:=rorder_any W
 have cless:=fun (W':World) ga gb cb X Y hX hY h1 h2=>rless_any ga gb 34 cb X Y hX hY W' h1 h2
 have hlen:((n:Int) - 1)=(n:Int) - 1:=rfl
 have hw1:IntKind.i64.wrap ((n:Int) - 1)=(n:Int) - 1:=by simp only [IntKind.wrap_i64];omega
 obtain ⟨N,hN⟩:∃ N,N=ofB D n:=⟨_,rfl⟩
 have hNl:N<256 ^ n:=by rw [hN];exact ofB_lt D hD n
 rw [←hN]
 have HN:=Hid.mk' hN
 have HNl:=Hid.mk' hNl
 obtain ⟨rr,hrr⟩:∃ rr,rr=N%oL:=⟨_,rfl⟩
 rw [←hrr]
 have HRR:=Hid.mk' hrr
 clear hN hNl hlen hrr
 go_enter Tryz.func59,Tryz.ntmps59
 go_wp2_with (first
  | rw [hmk]
  | (go_at_call 99;refine co.mono ?_;clear co;rintro e w1 ⟨gl,cl,rfl,hgl,hgls,hrl,hb1⟩))
 have hw1':=hbW.trans (hb1.mono (by omega))
 have hz34:ofB (fun _=>0) 34=0:=by decide
 have d0:Dg w1 w.heap.size 0 (fun _=>0):=⟨hx0.below hb1 (by omega),fun _=>Nat.zero_lt_succ _,hz34⟩
 clear hx0 hz34
 go_loopw [5,3] (fun i x wr=>∃ (p gx:Nat) (Z:Nat→Nat),p≤n∧i = .int .i64 ((p:Int) - 1)∧x = .slice (some ⟨gx,0,none⟩) 34 34∧Dg wr gx (N / 256 ^ p%oL) Z∧RowAt .i64 wr gl 0 34 (byt oL)∧w.heap.size≤gx∧gx≠gl∧gx<wr.heap.size∧gl<wr.heap.size∧Below w.heap.size w wr) (fun i _ _=>(intOf i+1).toNat)
 case atStart =>
  refine ⟨n,w.heap.size,fun _=>0,Nat.le_refl _,by first | rfl | go_num,rfl,?_,hrl,Nat.le_refl _,by omega,by have:=hw1'.size;have:=hb1.size;omega,hgls,hw1'⟩
  rw [Nat.div_eq_of_lt HNl.out,Nat.zero_mod];exact d0
 case round =>
  clear d0 hrl hw1' hb1 hmk hbW
  obtain ⟨p,gx,Z,hp,rfl,rfl,dg,hrl,hgx,hne,hgs,hls,hb⟩:=hrel
  by_cases hp0:p=0
  · subst hp0
    rw [Nat.pow_zero,Nat.div_one] at dg
    rw [←HRR.out] at dg
    rw [show (((0:Nat):Int) - 1)=-1 from rfl]
    have hZr:∀ j,j<34→Z j=byt rr j:=fun j hj=>by rw [←dg.val];exact (byt_ofB Z dg.dig 34 j hj).symm
    have HZ:=Hid.mk' hZr
    have drow:=dg.row
    obtain ⟨B,hB⟩:∃ B,B=wr.heap.size:=⟨_,rfl⟩
    have hBw:w.heap.size≤B:=by rw [hB];exact hb.size
    have hgB:gx<B:=by omega
    have hB2:B≤wr.heap.size:=by omega
    clear hZr hB dg
    go_wp2
    go_loopw [13,12] (fun i o wt=>∃ k:Nat,k≤32∧i = .int .i64 k∧Own B wt o k (byt rr)∧RowAt .i64 wt gx 0 34 Z∧B≤wt.heap.size∧Below w.heap.size w wt) (fun i _ _=>32 - (intOf i).toNat)
    case atStart=>exact ⟨0,by decide,rfl,Own.nil _ _ _,drow,hB2,hb⟩
    case round =>
     clear hb hgs hls hrl drow hB2
     obtain ⟨k,hk,rfl,own,hrow,hs,hb⟩:=hrel
     by_cases hkl:k<32
     · obtain ⟨rk,-⟩:=hrow k (by omega)
       rw [Nat.zero_add,HZ.out k (by omega)] at rk
       have hbl:=byt_lt rr k
       go_wp2_with (at_builtin;refine wpList_append_next rfl (.tmp 65) (.tmp 71) rfl B _ k (byt rr) _ rfl own rfl rfl (by omega) hs ?_;intro v' w' own' hb';(have hrow':=hrow.below hb' hgB);(have hs':=Nat.le_trans hs hb'.size);(have hbw':=hb.trans (hb'.mono hBw));clear own hb')
       go_roundw
       case rel=>exact ⟨k+1,by omega,by go_num,own',hrow',hs',hbw'⟩
       case measure=>simp [intOf];omega
     · have hke:k=32:=by omega
       subst hke
       have hin:=BytesIn.of_own own
       clear own
       go_wp2
       go_ret
       exact ⟨_,rfl,hin,hb⟩
  · obtain ⟨i,rfl⟩:∃ i,p=i+1:=⟨p - 1,by omega⟩
    have ei:(((i+1:Nat):Int) - 1)=(i:Int):=by omega
    rw [ei]
    have hii:(0:Int)≤(i:Int):=by omega
    go_wp2
    go_loopw [6,3] (fun b x wt=>∃ (q gy:Nat) (Y:Nat→Nat),q≤8∧b = .int .i64 ((q:Int) - 1)∧x = .slice (some ⟨gy,0,none⟩) 34 34∧Dg wt gy (N / 2 ^ (8*i+q)%oL) Y∧RowAt .i64 wt gl 0 34 (byt oL)∧w.heap.size≤gy∧gy≠gl∧gy<wt.heap.size∧gl<wt.heap.size∧Below w.heap.size w wt) (fun b _ _=>(intOf b+1).toNat)
    case atStart =>
     refine ⟨8,gx,Z,by decide,rfl,rfl,?_,hrl,hgx,hne,hgs,hls,hb⟩
     rw [pow_b] at dg;exact dg
    case round =>
     clear dg hrl hgx hne hgs hls hb
     obtain ⟨q,gy,Y,hq,rfl,rfl,dg,hrl,hgy,hne,hgs,hls,hb⟩:=hrel
     by_cases hq0:q=0
     · subst hq0
       rw [Nat.add_zero,←pow_b] at dg
       have dg':=Hid.mk' dg
       clear dg
       go_wp2
       exact ⟨⟨i,gy,Y,by omega,rfl,rfl,dg'.out,hrl,hgy,hne,hgs,hls,hb⟩,by simp [intOf]⟩
     · obtain ⟨s,rfl⟩:∃ s,q=s+1:=⟨q - 1,by omega⟩
       have es:(((s+1:Nat):Int) - 1)=(s:Int):=by omega
       rw [es]
       have hss:(0:Int)≤(s:Int):=by omega
       obtain ⟨gd,rfl,rd⟩:=hd wr hb i (by omega)
       have hin:(0:Int)≤(i:Int)∧(i:Int)<n:=by omega
       have hbit:=bit_and (D i) s (hD i)
       obtain ⟨c0,hc0⟩:∃ c0,c0=D i / 2 ^ s%2:=⟨_,rfl⟩
       have hc1:c0≤1:=by omega
       have hnb:=next_bit D hD n i s (by omega) (by omega)
       rw [←hc0] at hnb hbit
       rw [←HN.out] at hnb
       have HB:=Hid.mk' hbit
       have HNB:=Hid.mk' hnb
       obtain ⟨r,hr⟩:∃ r,r=N / 2 ^ (8*i+(s+1))%oL:=⟨_,rfl⟩
       have hrl':r<oL:=by rw [hr];exact Nat.mod_lt _ (by decide)
       rw [←hr] at dg
       have HR:=Hid.mk' hr
       clear hbit hnb hc0 hr
       go_wp2
       rw [HB.out]
       go_loopw [8,7] (fun k c wu=>∃ (k' C:Nat) (X:Nat→Nat),k'≤34∧k = .int .i64 k'∧c = .int .i64 C∧C≤1∧RowAt .i64 wu gy 0 34 X∧(∀ j,X j<256)∧(∀ j,k'≤j→X j=Y j)∧ofB X k'+256 ^ k'*C=2*ofB Y k'+c0∧RowAt .i64 wu gl 0 34 (byt oL)∧gy<wu.heap.size∧gl<wu.heap.size∧Below w.heap.size w wu) (fun k _ _=>34 - (intOf k).toNat)
       case atStart=>exact ⟨0,c0,Y,by decide,rfl,rfl,hc1,dg.row,dg.dig,fun _ _=>rfl,by simp [ofB],hrl,hgs,hls,hb⟩
       case round =>
        clear hrl hgs hls hb rd
        obtain ⟨k,C,X,hk,rfl,rfl,hC,hrow,hX,hXY,hinv,hrl,hgs,hls,hb⟩:=hrel
        have HXY:=Hid.mk' hXY
        have HI:=Hid.mk' hinv
        clear hXY hinv
        by_cases hkl:k<34
        · obtain ⟨rk,fk⟩:=hrow k hkl
          rw [Nat.zero_add] at rk fk
          have hXk:=hX k
          obtain ⟨v,hv⟩:∃ v,v=2*X k+C:=⟨_,rfl⟩
          have hvi:2*(X k:Int)+(C:Int)=(v:Int):=by omega
          have ha:=i64_and255 v (by omega)
          have hs8:=dbl_step HI.out (show v=2*Y k+C by rw [hv,HXY.out k (Nat.le_refl _)])
          have HS:=Hid.mk' hs8
          have hdv:(v:Int) / 256=((v / 256:Nat):Int):=by omega
          have hv1:v / 256≤1:=by omega
          have hvm:v%256<256:=Nat.mod_lt _ (by decide)
          have hvl:v<512:=by omega
          have HDV:=Hid.mk' hdv
          clear hs8 hv hdv
          go_wp2
          have h1:=hrow.set (i:=k) hkl (v:=(v:Int)%256) (u:=v%256) (by omega)
          rw [Nat.zero_add] at h1
          refine ⟨⟨k+1,v / 256,upd X k (v%256),by omega,by go_num,by rw [HDV.out],hv1,h1,fun j => ?_,fun j hj => ?_,?_,hrl.far (by show gy≠gl;exact hne) _,by simpa using hgs,by simpa using hls,hb.setCell hgy _⟩,by simp [intOf];omega⟩
          · unfold upd;split
            · exact hvm
            · exact hX j
          · unfold upd;rw [if_neg (by omega)];exact HXY.out j (by omega)
          · rw [ofB,ofB,ofB_upd,show upd X k (v%256) k=v%256 by unfold upd;rw [if_pos rfl],Nat.pow_succ]
            have:=HS.out
            omega
        · have hke:k=34:=by omega
          subst hke
          have hfin:=dbl_fin HI.out dg.val hrl' hc1 hC (ofB_lt X hX 34)
          have HF:=Hid.mk' (twice_mod (N / 2 ^ (8*i+(s+1))) c0)
          have hge:=fun h=>rless_ge gy gl 34 cl X (byt oL) hX (byt_all oL) (2*r+c0) oL hfin ord_val h wr hrow hrl
          have hlt:=fun h=>rless_lt gy gl 34 cl X (byt oL) hX (byt_all oL) (2*r+c0) oL hfin ord_val h wr hrow hrl
          have hval:N / 2 ^ (8*i+s)%oL=(2*r+c0)%oL:=by rw [HNB.out,HF.out,HR.out]
          have HV:=Hid.mk' hval
          have HFI:=Hid.mk' hfin
          clear hval hfin
          by_cases hc:oL≤2*r+c0
          · replace hge:=hge hc
            have hm:(2*r+c0)%oL=2*r+c0 - oL:=by rw [Nat.mod_eq_sub_mod hc,Nat.mod_eq_of_lt (by omega)]
            have HM:=Hid.mk' hm
            clear hlt hm
            go_wp2_with (go_at_call 100;refine hge.mono ?_;clear hge;rintro e w2 ⟨Z2,rfl,hr2,hZ2,hv2,hb2⟩)
            exact ⟨⟨s,wr.heap.size,Z2,by omega,rfl,rfl,⟨hr2,hZ2,by rw [HV.out,HM.out];exact hv2⟩,hrl.below hb2 hls,hb.size,by omega,block_lt_of_cell (hr2 0 (by decide)).1,Nat.lt_of_lt_of_le hls hb2.size,below_next hb hb2⟩,by simp [intOf]⟩
          · replace hlt:=hlt (by omega)
            have hm:(2*r+c0)%oL=2*r+c0:=Nat.mod_eq_of_lt (by omega)
            have HM:=Hid.mk' hm
            clear hge hm
            go_wp2_with (go_at_call 100;refine hlt.mono ?_;clear hlt;rintro e w2 ⟨rfl,hb2⟩)
            exact ⟨⟨s,gy,X,by omega,rfl,rfl,⟨hrow.below hb2 hgs,hX,by rw [HV.out,HM.out];exact HFI.out⟩,hrl.below hb2 hls,hgy,hne,Nat.lt_of_lt_of_le hgs hb2.size,Nat.lt_of_lt_of_le hls hb2.size,below_next hb hb2⟩,by simp [intOf]⟩
theorem rrest_own {base:Nat} (v:Value) (n:Nat) (D:Nat→Nat) (hD:∀ j,D j<256) (hn:n≤1000) (w:World) (hv:OwnI base w v n D) :
 Calls Tryz.prog 59 #[v] w fun e w'=>∃ s,e = .returned s∧BytesIn w' s 32 (byt (ofB D n%oL))∧Below w.heap.size w w':=by
 rcases hv.form with ⟨rfl,rfl⟩ | ⟨g,cap,rfl,_,hg,_,hr⟩
 · exact rrest_at none 0 0 D hD hn w (fun _ _ j hj=>absurd hj (Nat.not_lt_zero j))
 · exact rrest_at _ n cap D hD hn w (fun W hW j hj=>⟨g,rfl,by have:=(hr.below hW hg j hj).1;rwa [Nat.zero_add] at this⟩)
theorem rrest_row (g n cap:Nat) (D:Nat→Nat) (hD:∀ j,D j<256) (hn:n≤1000) (w:World) (hr:RowAt .i64 w g 0 n D) (hg:g<w.heap.size) :
 Calls Tryz.prog 59 #[.slice (some ⟨g,0,none⟩) n cap] w fun e w'=>∃ s,e = .returned s∧BytesIn w' s 32 (byt (ofB D n%oL))∧Below w.heap.size w w' :=
 rrest_at _ n cap D hD hn w (fun W hW j hj=>⟨g,rfl,by have:=(hr.below hW hg j hj).1;rwa [Nat.zero_add] at this⟩)
end Go.Proofs.YtdgkmloabificaaGreatDoor
namespace Go.Proofs.YtdgkmloabificaaGreatDoor
open Go.RowKit
theorem bequal_any (v u:Value) (S T:ByteArray) (b:Bool) (hb:(S.toList == T.toList)=b) (w:World) (hv:Str w v S) (hu:Str w u T):Calls Tryz.prog 64 #[v,u] w fun e w'=>e = .returned (.bool b)∧w'=w:=by
 have c1:=hv.conv w (Below.refl _ _)
 have c2:=hu.conv w (Below.refl _ _)
 obtain ⟨xv,n,kv,rfl⟩:=hv.form
 obtain ⟨xu,m,ku,rfl⟩:=hu.form
 clear hv hu
 go_enter Tryz.func64,Tryz.ntmps64
 go_wp2
 go_ret
 exact ⟨rfl,rfl⟩
def canonB (bs:Nat→Nat):Bool:=decide (ofB bs 32<oL)
theorem canon_str {bs:Nat→Nat} (hbs:∀ j,bs j<256):((strB 32 (byt (ofB bs 32%oL))).toList == (strB 32 bs).toList)=canonB bs:=by
 have hl:=ofB_lt bs hbs 32
 unfold canonB
 by_cases h:ofB bs 32<oL
 · rw [decide_eq_true h,Nat.mod_eq_of_lt h,strB_congr (n:=32) (a:=byt (ofB bs 32)) (b:=bs) (fun j hj=>byt_ofB bs hbs 32 j hj)]
   exact beq_self_eq_true _
 · rw [decide_eq_false h,ByteArray.toList_eq,ByteArray.toList_eq]
   refine beq_false_of_ne (fun e=>h ?_)
   have e2:=(strB_eq (byt_all _) hbs).1 (WideShapes.bytes_inj e)
   have e3:=ofB_congr 32 e2.2
   have hm:ofB bs 32%oL<oL:=Nat.mod_lt _ (by decide)
   rw [ofB_byt32 _ (Nat.lt_trans hm (by unfold oL;decide))] at e3
   omega
set_option maxRecDepth 20000 in
set_option maxHeartbeats 2000000 in
theorem canonical_good (v:Value) (bs:Nat→Nat) (hbs:∀ j,bs j<256) (w:World) (hO:Ord w) (hv:BytesIn w v 32 bs) :
 Calls Tryz.prog 28 #[v] w fun e w'=>e = .returned (.bool (canonB bs))∧Below w.heap.size w w':=by
 have cl:=load_any v 32 bs hbs (by decide) w hv
 have hN:=ofB_64 hbs (show 32≤64 by decide)
 have cr:=fun (W:World) (hW:Below w.heap.size w W)=>rest_any W.heap.size (lw (ofB bs 32)) (lw_lt _) (lw_zero hN (Nat.le_refl _)) (laidW W (lw (ofB bs 32))) (laidW_row W _) ((hO.still hW).still (laidW_below W _)) (by have:=hW.size;have:=hO.lt;omega)
 rw [pt_lwN (Nat.lt_of_lt_of_le hN (Nat.pow_le_pow_right (by decide) (by decide)))] at cr
 have ceq:=fun (W:World) (u:Value) (hu:Str W u _) (hv:Str W v _)=>bequal_any u v _ _ _ (canon_str hbs) W hu hv
 have sv:=Str.of hv hbs
 obtain ⟨xv,kv,rfl,-⟩:=hv.src
 obtain ⟨R,hR⟩:∃ R,R=ofB bs 32%oL:=⟨_,rfl⟩
 rw [←hR] at cr ceq
 obtain ⟨X,hX⟩:∃ X,X=lw (ofB bs 32):=⟨_,rfl⟩
 rw [←hX] at cl cr
 obtain ⟨b,hb⟩:∃ b,b=canonB bs:=⟨_,rfl⟩
 rw [←hb] at ceq ⊢
 have hz:=zeroW
 have hi2:=infoWA X
 have ho:=oneW X
 unfold wideV at cl
 clear hv hR hX hN hbs hb
 go_enter Tryz.func28,Tryz.ntmps28
 go_wp2_with (first
  | (go_at_call 54;refine cl.mono ?_;clear cl;rintro e w1 ⟨rfl,hb1⟩;(have hth:=laidW_there w1 X);replace cr:=cr w1 hb1)
  | (with_reducible (refine id (?_:wpList _ _ _ _ _ _));refine wpList_store_mid rfl 85 _ _ rfl w1.heap.size 0 (ints .u64 9 X).toArray rfl rfl hth hi2 ho ?_)
  | (go_at_call 56;refine Calls.mono (show Calls _ _ _ (laidW w1 X) _ from cr) ?_;clear cr;rintro e w3 ⟨h,rfl,hh1,hh2,hr,hout⟩;(have hbl:=hb1.trans ((laidW_below w1 X).mono hb1.size));(have hb3:=hbl.trans (hout.below hb1.size hbl.size));(have sh:Str w3 (.slice (some ⟨h,0,none⟩) 32 32) (strB 32 (byt R)):=Str.of (.inr ⟨h,0,32,rfl,hh2,Nat.le_refl _,fun j hj=>(hr j hj).1⟩) (byt_all R));replace ceq:=ceq w3 _ sh (sv.still hb3))
  | (go_at_call 64;refine ceq.mono ?_;clear ceq;rintro e w4 ⟨rfl,rfl⟩))
 go_ret
 exact ⟨rfl,hb3⟩
end Go.Proofs.YtdgkmloabificaaGreatDoor
namespace Go.Proofs.YtdgkmloabificaaGreatDoor
open Go.RowKit
set_option maxRecDepth 20000 in
set_option maxHeartbeats 4000000 in
theorem rreduce_at (xo:Option Addr) (n c:Nat) (bs:Nat→Nat) (hbs:∀ j,bs j<256) (hn:n≤64) (w:World) (hc:∀ W,Below w.heap.size w W→∀ j,j<n→∃ bb ob,xo=some ⟨bb,ob,none⟩∧W.cell? ⟨bb,ob+j,none⟩=some (.int .u8 (bs j))) :
 Calls Tryz.prog 58 #[.slice xo n c] w fun e w'=>∃ s,e = .returned (.tuple #[s,.int .i64 0])∧BytesIn w' s 32 (byt (ofB bs n%oL))∧Below w.heap.size w w':=by
 have cr:=fun (W:World) v (hv:OwnI w.heap.size W v n bs)=>rrest_own v n bs hbs (by omega) W hv
 obtain ⟨R,hR⟩:∃ R,R=ofB bs n%oL:=⟨_,rfl⟩
 rw [←hR] at cr ⊢
 have hni:¬(64:Int)<n:=by omega
 clear hR
 go_enter Tryz.func58,Tryz.ntmps58
 go_wp2
 go_loopw [5,4] (fun i d wr=>∃ k:Nat,k≤n∧i = .int .i64 k∧OwnI w.heap.size wr d k bs∧Below w.heap.size w wr) (fun i _ _=>n - (intOf i).toNat)
 case atStart=>exact ⟨0,Nat.zero_le _,rfl,OwnI.nil _ _ _,Below.refl _ _⟩
 case round =>
  obtain ⟨k,hk,rfl,own,hb⟩:=hrel
  by_cases hlt:k<n
  · obtain ⟨bb,ob,rfl,rk⟩:=hc wr hb k hlt
    have hki:(k:Int)<n:=by omega
    have hbk:=hbs k
    have hs:=hb.size
    clear hc cr
    go_wp2_with (at_builtin;refine wpList_append_nextI rfl (.tmp 15) (.tmp 21) rfl w.heap.size _ k bs _ rfl own rfl rfl (by omega) hs ?_;intro v' w' own' hb';clear own)
    go_roundw
    case rel=>exact ⟨k+1,by omega,by go_num,own',hb.trans hb'⟩
    case measure=>simp [intOf];omega
  · have hke:k=n:=by omega
    subst hke
    have hki:¬(k:Int)<k:=by omega
    replace cr:=cr wr _ own
    clear hc own
    go_wp2_with (go_at_call 59;refine cr.mono ?_;clear cr;rintro e w1 ⟨s,rfl,hs,hb1⟩)
    go_ret2
    exact ⟨_,rfl,hs,below_next hb hb1⟩
theorem rreduce_good (v:Value) (n:Nat) (bs:Nat→Nat) (hbs:∀ j,bs j<256) (hn:n≤64) (w:World) (hv:BytesIn w v n bs) :
 Calls Tryz.prog 58 #[v] w fun e w'=>∃ s,e = .returned (.tuple #[s,.int .i64 0])∧BytesIn w' s 32 (byt (ofB bs n%oL))∧Below w.heap.size w w':=by
 rcases hv with ⟨xo,rfl,rfl⟩ | ⟨bb,ob,cap,rfl,h1,h2,h3⟩
 · exact rreduce_at xo 0 0 bs hbs hn w (fun _ _ j hj=>absurd hj (Nat.not_lt_zero j))
 · exact rreduce_at _ n cap bs hbs hn w (fun W hW j hj=>⟨bb,ob,rfl,(hW.cell (p:=⟨bb,ob+j,none⟩) h1).trans (h3 j hj)⟩)
set_option maxRecDepth 20000 in
set_option maxHeartbeats 2000000 in
theorem rcanonical_good (v:Value) (bs:Nat→Nat) (hbs:∀ j,bs j<256) (w:World) (hv:BytesIn w v 32 bs) :
 Calls Tryz.prog 32 #[v] w fun e w'=>e = .returned (.bool (canonB bs))∧Below w.heap.size w w':=by
 have cr:=rreduce_good v 32 bs hbs (by decide) w hv
 have hcs:=canon_str hbs
 have sv:=Str.of hv hbs
 obtain ⟨xv,kv,rfl,-⟩:=hv.src
 obtain ⟨R,hR⟩:∃ R,R=ofB bs 32%oL:=⟨_,rfl⟩
 rw [←hR] at cr hcs
 obtain ⟨b,hb⟩:∃ b,b=canonB bs:=⟨_,rfl⟩
 rw [←hb] at hcs ⊢
 obtain ⟨SA,hSA⟩:∃ S,S=strB 32 bs:=⟨_,rfl⟩
 rw [←hSA] at sv hcs
 clear hv hR hb hSA hbs
 go_enter Tryz.func32,Tryz.ntmps32
 go_wp2_with (go_at_call 58;refine cr.mono ?_;clear cr;rintro e w1 ⟨s,rfl,hs,hb1⟩;(have q1:=(Str.of hs (byt_all R)).conv w1 (Below.refl _ _));(have q2:=sv.conv w1 hb1);(obtain ⟨x1,k1,rfl,-⟩:=hs.src))
 go_ret
 exact ⟨rfl,hb1⟩
end Go.Proofs.YtdgkmloabificaaGreatDoor
