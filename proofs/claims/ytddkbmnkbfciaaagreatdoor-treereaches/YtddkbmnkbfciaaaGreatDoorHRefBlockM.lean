/- What the proof stands on: HRefBlock, HRefPad, HRefTab. -/
import Derived.Test.YtddkbmnkbfciaaaGreatDoorHEngM
import Derived.Test.YtddkbmnkbfciaaaGreatDoorHRefWordsM
import Derived.Test.YtddkbmnkbfciaaaGreatDoorHStartM
import Derived.Deep.Cut
import Derived.Deep.RegionWith
import Derived.Deep.Upon
namespace Go.Proofs.YtddkbmnkbfciaaaGreatDoor
open Go.RowKit
theorem andR (x g m:Nat) (hg:g<2 ^ m):x &&& g=(x%2 ^ m) &&& g:=by
 have h1:x &&& g<2 ^ m:=Nat.and_lt_two_pow _ hg
 have h2:=Nat.and_mod_two_pow (a:=x) (b:=g) (n:=m)
 rw [Nat.mod_eq_of_lt h1,Nat.mod_eq_of_lt hg] at h2
 exact h2
theorem below_size_of {B:Nat} {w w1:World} {o:Obj} (h:Below B (w.alloc o) w1):w.heap.size+1≤w1.heap.size:=by have:=h.size;simpa using this
theorem srcS {w w1:World} {gs:Nat} {s:St} (hb:Below w.heap.size w w1) (h:∀ j,j<8→w.cell? ⟨gs,j,none⟩=some (.int .u64 (s.at j))):∀ j u,(ints .u64 8 s.at)[j]? = some u→(w1.alloc (.cells #[] 210)).cell? ((⟨gs,0,none⟩:Addr).add j)=some u:=fun j u hu=>by
 have hj:j<8:=by have:=(List.getElem?_eq_some_iff.1 hu).1;rwa [ints_len] at this
 rw [ints_at _ _ _ j hj] at hu
 have hg:gs<w.heap.size:=block_lt_of_cell (h 0 (by decide))
 rw [Addr.add_mid,Nat.zero_add,World.cell?_alloc_lt _ _ _ (by have:=hb.size;show gs<_;omega),hb.cell (p:=⟨gs,j,none⟩) hg,h j hj,hu]
def addG (m:Nat) (s x:St) (k:Nat):Nat→Nat:=fun j=>if j<k then (s.at j+x.at j)%2 ^ m else x.at j
theorem addG_step (m:Nat) (s x:St) (k j:Nat):upd (addG m s x k) k ((s.at k+x.at k)%2 ^ m) j=addG m s x (k+1) j:=by
 unfold upd addG
 by_cases e:j=k
 · subst e;rw [if_pos rfl,if_pos (by omega)]
 · rw [if_neg e]
   by_cases e2:j<k
   · rw [if_pos e2,if_pos (by omega)]
   · rw [if_neg e2,if_neg (by omega)]
theorem addG_end (r:Ru) (s x:St) (j:Nat) (hj:j<8):addG r.m s x 8 j=(addS r s x).at j:=by
 unfold addG
 rw [if_pos hj]
 match j,hj with
 | 0,_=>rfl
 | 1,_=>rfl
 | 2,_=>rfl
 | 3,_=>rfl
 | 4,_=>rfl
 | 5,_=>rfl
 | 6,_=>rfl
 | 7,_=>rfl
theorem chR_32 (e f g:Nat) (he:e<2 ^ 32) (hf:f<2 ^ 32) (hg:g<2 ^ 32):bits .xor .u64 (bits .and .u64 e f) (bits .and .u64 (bits .xor .u64 IntKind.u64.max e) g)=((chS 32 e f g:Nat):Int):=by
 have l:∀ {x:Nat},x<2 ^ 32→x<18446744073709551616:=fun h=>Nat.lt_of_lt_of_le h (by decide)
 refine (ch_64 e f g (l he) (l hf) (l hg)).trans ?_
 have hmod:(2 ^ 64 - 1 - e)%2 ^ 32=2 ^ 32 - 1 - e:=by
  have h3:(2:Nat) ^ 32=4294967296:=rfl
  have h4:(2:Nat) ^ 64=18446744073709551616:=rfl
  rw [h3] at he ⊢
  try rw [h4]
  omega
 have key:chS 64 e f g=chS 32 e f g:=by
  unfold chS
  rw [andR (2 ^ 64 - 1 - e) g 32 hg,hmod]
 exact congrArg Nat.cast key
theorem majR_32 (a b c:Nat) (ha:a<2 ^ 32) (hb:b<2 ^ 32) (hc:c<2 ^ 32):bits .xor .u64 (bits .xor .u64 (bits .and .u64 a b) (bits .and .u64 a c)) (bits .and .u64 b c)=((majS a b c:Nat):Int):=by
 have l:∀ {x:Nat},x<2 ^ 32→x<18446744073709551616:=fun h=>Nat.lt_of_lt_of_le h (by decide)
 exact maj_64 a b c (l ha) (l hb) (l hc)
theorem cutT_32 (g0 g1 g2 g3:Nat) (S:Nat) (W':World):Calls Tryz.prog 233 #[(.agg #[.int .i64 32,.int .i64 64,.int .i64 64,.slice (some ⟨g0,0,none⟩) 3 3,.slice (some ⟨g1,0,none⟩) 3 3,.slice (some ⟨g2,0,none⟩) 3 3,.slice (some ⟨g3,0,none⟩) 3 3]),.int .u64 ((S%2 ^ 64:Nat):Int)] W' fun e w'=>e = .returned (.int .u64 ((S%2 ^ 32:Nat):Int))∧Below W'.heap.size W' w':=by
 have h:=cut32_any g0 g1 g2 g3 (S%2 ^ 64) (Nat.mod_lt _ (by decide)) W'
 rw [Nat.mod_mod_of_dvd _ (Nat.pow_dvd_pow 2 (by decide))] at h
 exact h
theorem sum5R_32 (a b c d e:Nat):(((((a:Int)+b)%18446744073709551616+c)%18446744073709551616+d)%18446744073709551616+e)%18446744073709551616=(((a+b+c+d+e)%2 ^ 64:Nat):Int):=by
 have h:(2:Nat) ^ 64=18446744073709551616:=rfl
 rw [h];omega
set_option maxRecDepth 20000 in
set_option maxHeartbeats 2000000 in
theorem blockR32_any (K:Nat→Nat) (g0 g1 g2 g3 gs cs gk ck bb ob cap:Nat) (s:St) (hs:s.lt (2 ^ 32)) (bs:Nat→Nat) (hbs:∀ j,bs j<256) (w:World) (hL:Lists32 w g0 g1 g2 g3)
 (hrs:∀ j,j<8→w.cell? ⟨gs,j,none⟩=some (.int .u64 (s.at j))) (hrk:∀ j,j<80→w.cell? ⟨gk,j,none⟩=some (.int .u64 (K j))) (hcell:∀ j,j<64→w.cell? ⟨bb,ob+j,none⟩=some (.int .u8 (bs j))) :
 Calls Tryz.prog 196 #[(.agg #[.int .i64 32,.int .i64 64,.int .i64 64,.slice (some ⟨g0,0,none⟩) 3 3,.slice (some ⟨g1,0,none⟩) 3 3,.slice (some ⟨g2,0,none⟩) 3 3,.slice (some ⟨g3,0,none⟩) 3 3]),.slice (some ⟨gs,0,none⟩) 8 cs,.slice (some ⟨gk,0,none⟩) 80 ck,.slice (some ⟨bb,ob,none⟩) 64 cap] w
  fun e w'=>∃ g c,e = .returned (.slice (some ⟨g,0,none⟩) 8 c)∧w.heap.size≤g∧RowAt .u64 w' g 0 8 (addS rn s (roundsS rn K (sch rn (fun i=>wordR bs (4*i) 4) (64 - 16)) s 64)).at∧Below w.heap.size w w':=by
 obtain ⟨i0,hi,hz0,hz1,hz2⟩:=info_parts Tryz.info210
 have hgs:gs<w.heap.size:=block_lt_of_cell (hrs 0 (by decide))
 have hgk:gk<w.heap.size:=block_lt_of_cell (hrk 0 (by decide))
 have hb1:Below w.heap.size w (w.alloc (.cells #[.int .i64 32,.int .i64 64,.int .i64 64,.slice (some ⟨g0,0,none⟩) 3 3,.slice (some ⟨g1,0,none⟩) 3 3,.slice (some ⟨g2,0,none⟩) 3 3,.slice (some ⟨g3,0,none⟩) 3 3] 162)):=(Below.refl _ _).alloc (Nat.le_refl _) _
 have hbb:bb<w.heap.size:=block_lt_of_cell (hcell 0 (by decide))
 have hwords:=words32_any g0 g1 g2 g3 bb ob cap bs hbs (w.alloc (.cells #[.int .i64 32,.int .i64 64,.int .i64 64,.slice (some ⟨g0,0,none⟩) 3 3,.slice (some ⟨g1,0,none⟩) 3 3,.slice (some ⟨g2,0,none⟩) 3 3,.slice (some ⟨g3,0,none⟩) 3 3] 162)) (hL.below hb1) (fun j hj=>(World.cell?_alloc_lt _ _ _ hbb).trans (hcell j hj))
 have hWl:∀ j,sch rn (fun i=>wordR bs (4*i) 4) (64 - 16) j<2 ^ 32:=sch_lt (r:=rn) (fun j=>wordR32_lt hbs (4*j)) _
 obtain ⟨X,hXe⟩:∃ X:Nat→Nat,X=sch rn (fun i=>wordR bs (4*i) 4) (64 - 16):=⟨_,rfl⟩
 rw [←hXe] at hwords hWl ⊢
 clear hXe hcell hbs
 go_enter Tryz.func196,Tryz.ntmps196
 go_wp2_with (first
  | (go_at_call 232;refine hwords.mono ?_;clear hwords;rintro e w1 ⟨v,rfl,hown,hbw1⟩;obtain ⟨gw,cw,hv,hgw,hgwl⟩:=hown.form (by decide);subst hv;simp only [World.size_alloc] at hbw1 hgw;have hw1:Below w.heap.size w w1:=hb1.trans (hbw1.mono (by omega));have hzs1:w.heap.size+1≤w1.heap.size:=below_size_of hbw1;have hcs:=srcS hw1 hrs)
  | (at_builtin;refine wpList_append_lies _ rfl (.tmp 19) (.tmp 20) 208 rfl (w.heap.size+1) 210 i0 (.int .u64 0) 1 8 Tryz.underlying208 hi hz0 hz1 hz2 rfl (by decide) (.slice (some ⟨w1.heap.size,0,none⟩) 0 0) 0 [] rfl (World.ownsRow_lit w1 #[] 0 hzs1 (by decide) rfl) ⟨gs,0,none⟩ 8 cs (ints .u64 8 s.at) rfl rfl hcs (ints_one _ _ _) (by decide) (by decide) (by decide) (by simp only [World.size_alloc];omega) _ rfl ?_;intro gx cx w2 hownx hgrowx hat hgl))
 rw [List.nil_append,Nat.zero_add] at hownx
 have hx0:RowAt .u64 w2 gx 0 8 s.at:=fun j hj=>by
  rw [Nat.zero_add]
  exact ⟨by rw [hownx.cellAt j (by omega),ints_at _ _ _ j hj],hownx.frozenAt j⟩
 have hgx:w.heap.size+1≤gx:=(hownx.lt gx rfl).1
 have hb2:Below w1.heap.size w1 w2:=((Below.refl _ _).alloc (Nat.le_refl _) _).grown hgrowx (by simp) (fun q h=>by cases h;exact Nat.le_refl _)
 have hw2:Below w.heap.size w w2:=hw1.trans (hb2.mono hw1.size)
 have hL2:=hL.below hw2
 have hZ2:ZBox32 w2 w.heap.size g0 g1 g2 g3:=by
  have hz:=zbox32 w g0 g1 g2 g3
  have hc:∀ j,w2.cell? ⟨w.heap.size,j,none⟩=(w.alloc (.cells #[.int .i64 32,.int .i64 64,.int .i64 64,.slice (some ⟨g0,0,none⟩) 3 3,.slice (some ⟨g1,0,none⟩) 3 3,.slice (some ⟨g2,0,none⟩) 3 3,.slice (some ⟨g3,0,none⟩) 3 3] 162)).cell? ⟨w.heap.size,j,none⟩:=fun j=>(hb2.cell (p:=⟨w.heap.size,j,none⟩) (by show w.heap.size<_;omega)).trans (hbw1.cell (p:=⟨w.heap.size,j,none⟩) (Nat.lt_succ_self _))
  unfold ZBox32 at *
  simp only [hc]
  exact hz
 have hrw:∀ j,j<64→w2.cell? ⟨gw,j,none⟩=some (.int .u64 (X j)):=fun j hj=>(hb2.cell (p:=⟨gw,j,none⟩) hgwl).trans (by rw [hown.cellAt j (by omega),ints_at _ _ _ j hj])
 have hrk2:∀ j,j<80→w2.cell? ⟨gk,j,none⟩=some (.int .u64 (K j)):=fun j hj=>(hw2.cell (p:=⟨gk,j,none⟩) hgk).trans (hrk j hj)
 have hrs2:∀ j,j<8→w2.cell? ⟨gs,j,none⟩=some (.int .u64 (s.at j)):=fun j hj=>(hw2.cell (p:=⟨gs,j,none⟩) hgs).trans (hrs j hj)
 have hs2:=hw2.size
 have hlg:gx<w2.heap.size:=hgl
 have hlw:gw<w2.heap.size:=by have:=hb2.size;omega
 have hlz:w.heap.size<w2.heap.size:=by have:=hb2.size;omega
 have hlk:gk<w2.heap.size:=by omega
 have hls:gs<w2.heap.size:=by omega
 clear hL hrk hown hbw1 hgrowx hat hownx hcs hb1 hgl hb2 hw1
 go_wp2
 go_loopw [10,11] (fun v i wr=>∃ k g c:Nat,k≤64∧i = .int .i64 k∧v = .slice (some ⟨g,0,none⟩) 8 c∧w.heap.size+1≤g∧RowAt .u64 wr g 0 8 (roundsS rn K X s k).at∧Below w2.heap.size w2 wr) (fun _ i _=>64 - (intOf i).toNat)
 case atStart=>exact ⟨0,gx,cx,Nat.zero_le _,rfl,rfl,hgx,hx0,Below.refl _ _⟩
 case round =>
  clear hx0 hgx hlg
  obtain ⟨k,g,c,hk,rfl,rfl,hg,hrow,hbel⟩:=hrel
  have hgl:g<wr.heap.size:=block_lt_of_cell (hrow 0 (by decide)).1
  have hsz:=hbel.size
  have hZ:=hZ2.below hbel
  by_cases hlt:k<64
  · have hx:(roundsS rn K X s k).lt (2 ^ 32):=roundsS_lt (r:=rn) hs k
    obtain ⟨x,hxe⟩:∃ x,x=roundsS rn K X s k:=⟨_,rfl⟩
    have HX:Hid (x=roundsS rn K X s k):=hxe
    rw [←hxe] at hx hrow
    clear hxe
    obtain ⟨q0,q1,q2,q3,q4,q5,q6,q7⟩:=hrow.st
    obtain ⟨z0,z1,z2,z3,z4,z5,z6⟩:=hZ
    have rk:wr.cell? ⟨gk,k,none⟩=some (.int .u64 (K k)):=(hbel.cell (p:=⟨gk,k,none⟩) hlk).trans (hrk2 k (by omega))
    have rw':wr.cell? ⟨gw,k,none⟩=some (.int .u64 (X k)):=(hbel.cell (p:=⟨gw,k,none⟩) hlw).trans (hrw k hlt)
    have kn:k<80:=by omega
    have kn2:k<64:=hlt
    have ki:(0:Int)≤(k:Int)∧(k:Int)<80:=by omega
    have hS:∀ w':World,Below wr.heap.size wr w'→∀ b o,b<wr.heap.size→w'.cell? ⟨b,o,none⟩=wr.cell? ⟨b,o,none⟩:=fun w' h b o hb=>h.cell (p:=⟨b,o,none⟩) hb
    have m0:w.heap.size<wr.heap.size:=by omega
    have m1:gw<wr.heap.size:=by omega
    have hLw:=hL2.below hbel
    have hbA:∀ n,Below wr.heap.size wr (wr.drewN n).drew:=fun n=>(below_drewN (Below.refl _ _) n).drew
    obtain ⟨v1,f1⟩:∃ a,a=hi3 32 x.e (6,11,25):=⟨_,rfl⟩
    obtain ⟨v2,f2⟩:∃ a,a=hi3 32 x.a (2,13,22):=⟨_,rfl⟩
    obtain ⟨T1,fT1⟩:∃ a,a=t1S rn (K k / 2 ^ (64 - 32)) (X k) x:=⟨_,rfl⟩
    obtain ⟨T2,fT2⟩:∃ a,a=t2S rn x:=⟨_,rfl⟩
    have hhi1:∀ W':World,Below wr.heap.size wr W'→Calls Tryz.prog 234 #[(.agg #[.int .i64 32,.int .i64 64,.int .i64 64,.slice (some ⟨g0,0,none⟩) 3 3,.slice (some ⟨g1,0,none⟩) 3 3,.slice (some ⟨g2,0,none⟩) 3 3,.slice (some ⟨g3,0,none⟩) 3 3]),.int .u64 x.e,.slice (some ⟨g3,0,none⟩) 3 3] W' fun e w'=>e = .returned (.int .u64 (v1:Int))∧Below W'.heap.size W' w':=fun W' h=>by
     have L:=hLw.below h
     rw [f1]
     exact high32_any g0 g1 g2 g3 g3 _ 6 11 25 hx.e (by decide) (by decide) (by decide) W' L.d0 L.d1 L.d2
    have hhi2:∀ W':World,Below wr.heap.size wr W'→Calls Tryz.prog 234 #[(.agg #[.int .i64 32,.int .i64 64,.int .i64 64,.slice (some ⟨g0,0,none⟩) 3 3,.slice (some ⟨g1,0,none⟩) 3 3,.slice (some ⟨g2,0,none⟩) 3 3,.slice (some ⟨g3,0,none⟩) 3 3]),.int .u64 x.a,.slice (some ⟨g2,0,none⟩) 3 3] W' fun e w'=>e = .returned (.int .u64 (v2:Int))∧Below W'.heap.size W' w':=fun W' h=>by
     have L:=hLw.below h
     rw [f2]
     exact high32_any g0 g1 g2 g3 g2 _ 2 13 22 hx.a (by decide) (by decide) (by decide) W' L.c0 L.c1 L.c2
    have hcut1:∀ W':World,Calls Tryz.prog 233 #[(.agg #[.int .i64 32,.int .i64 64,.int .i64 64,.slice (some ⟨g0,0,none⟩) 3 3,.slice (some ⟨g1,0,none⟩) 3 3,.slice (some ⟨g2,0,none⟩) 3 3,.slice (some ⟨g3,0,none⟩) 3 3]),.int .u64 (IntKind.u64.wrap (IntKind.u64.wrap (IntKind.u64.wrap (IntKind.u64.wrap ((x.h:Int)+v1)+bits .xor .u64 (bits .and .u64 x.e x.f) (bits .and .u64 (bits .xor .u64 IntKind.u64.max x.e) x.g))+((K k:Int) / 4294967296))+X k))] W' fun e w'=>e = .returned (.int .u64 (T1:Int))∧Below W'.heap.size W' w':=fun W'=>by
     have ek:((K k:Int) / 4294967296)=((K k / 2 ^ (64 - 32):Nat):Int):=by simp
     simp only [IntKind.wrap_u64]
     rw [chR_32 _ _ _ hx.e hx.f hx.g,ek,sum5R_32,fT1]
     have h:=cutT_32 g0 g1 g2 g3 (x.h+v1+chS 32 x.e x.f x.g+K k / 2 ^ (64 - 32)+X k) W'
     rw [f1] at h ⊢
     exact h
    have hcut2:∀ W':World,Calls Tryz.prog 233 #[(.agg #[.int .i64 32,.int .i64 64,.int .i64 64,.slice (some ⟨g0,0,none⟩) 3 3,.slice (some ⟨g1,0,none⟩) 3 3,.slice (some ⟨g2,0,none⟩) 3 3,.slice (some ⟨g3,0,none⟩) 3 3]),.int .u64 (IntKind.u64.wrap ((v2:Int)+bits .xor .u64 (bits .xor .u64 (bits .and .u64 x.a x.b) (bits .and .u64 x.a x.c)) (bits .and .u64 x.b x.c)))] W' fun e w'=>e = .returned (.int .u64 (T2:Int))∧Below W'.heap.size W' w':=fun W'=>by
     simp only [IntKind.wrap_u64]
     rw [majR_32 _ _ _ hx.a hx.b hx.c,addv_64,fT2]
     have h:=cutT_32 g0 g1 g2 g3 (v2+majS x.a x.b x.c) W'
     rw [f2] at h ⊢
     exact h
    obtain ⟨A',fA⟩:∃ a,a=(T1+T2)%2 ^ 32:=⟨_,rfl⟩
    obtain ⟨E',fE⟩:∃ a,a=(x.d+T1)%2 ^ 32:=⟨_,rfl⟩
    have hcut3:∀ W':World,Calls Tryz.prog 233 #[(.agg #[.int .i64 32,.int .i64 64,.int .i64 64,.slice (some ⟨g0,0,none⟩) 3 3,.slice (some ⟨g1,0,none⟩) 3 3,.slice (some ⟨g2,0,none⟩) 3 3,.slice (some ⟨g3,0,none⟩) 3 3]),.int .u64 (IntKind.u64.wrap ((T1:Int)+T2))] W' fun e w'=>e = .returned (.int .u64 (A':Int))∧Below W'.heap.size W' w':=fun W'=>by
     simp only [IntKind.wrap_u64]
     rw [addv_64,fA]
     exact cutT_32 g0 g1 g2 g3 (T1+T2) W'
    have hcut4:∀ W':World,Calls Tryz.prog 233 #[(.agg #[.int .i64 32,.int .i64 64,.int .i64 64,.slice (some ⟨g0,0,none⟩) 3 3,.slice (some ⟨g1,0,none⟩) 3 3,.slice (some ⟨g2,0,none⟩) 3 3,.slice (some ⟨g3,0,none⟩) 3 3]),.int .u64 (IntKind.u64.wrap ((x.d:Int)+T1))] W' fun e w'=>e = .returned (.int .u64 (E':Int))∧Below W'.heap.size W' w':=fun W'=>by
     simp only [IntKind.wrap_u64]
     rw [addv_64,fE]
     exact cutT_32 g0 g1 g2 g3 (x.d+T1) W'
    have HST:Hid (stepS rn (K k / 2 ^ (64 - 32)) (X k) x=⟨A',x.a,x.b,x.c,E',x.e,x.f,x.g⟩):=(by rw [fA,fE,fT1,fT2];rfl:stepS rn (K k / 2 ^ (64 - 32)) (X k) x=⟨A',x.a,x.b,x.c,E',x.e,x.f,x.g⟩)
    clear f1 f2 fT1 fT2 fA fE hLw hL2 hZ2 hrw hrk2 hrs2 hs hWl hrs
    go_wp2
    go_quiet (fail)
    go_wp2
    go_region_held3 (fun w'=>Below wr.heap.size wr w') (first | assumption | exact hbA _) (first
     | (go_at_call 234;refine (hhi1 _ (by first | assumption | exact hbA _)).mono ?_;rintro e w' ⟨rfl,hb⟩;have hbn:=below_next (W:=wr) (by first | assumption | exact hbA _) hb)
     | (go_at_call 233;refine (hcut1 _).mono ?_;rintro e w' ⟨rfl,hb⟩;have hbn:=below_next (W:=wr) (by assumption) hb))
    clear hhi1 hcut1
    go_wp2
    go_region_held3 (fun w'=>Below wr.heap.size wr w') (first | assumption | exact Below.drew (by assumption)) (first
     | (go_at_call 234;refine (hhi2 _ (by first | assumption | exact Below.drew (by assumption))).mono ?_;rintro e w' ⟨rfl,hb⟩;have hbn:=below_next (W:=wr) (by first | assumption | exact Below.drew (by assumption)) hb)
     | (go_at_call 233;refine (hcut2 _).mono ?_;rintro e w' ⟨rfl,hb⟩;have hbn:=below_next (W:=wr) (by assumption) hb))
    clear hhi2 hcut2
    go_wp2
    go_region_held3 (fun w'=>Below wr.heap.size wr w') (first | assumption | exact Below.drew (by assumption) | exact Below.alloc (by assumption) (Below.size (by assumption)) _) (first
     | (go_at_call_of 233 T2;refine (hcut3 _).mono ?_;rintro e w' ⟨rfl,hb⟩;have hbn:=below_next (W:=wr) (by first | assumption | exact Below.drew (by assumption)) hb)
     | (go_at_call_of 233 (x.d);refine (hcut4 _).mono ?_;rintro e w' ⟨rfl,hb⟩;have hbn:=below_next (W:=wr) (by assumption) hb))
    clear hcut3 hcut4 hS hbA q0 q1 q2 q3 q4 q5 q6 q7 z0 z1 z2 z3 z4 z5 z6 rk rw'
    go_wp2
    go_roundw
    case rel =>
     have hst:roundsS rn K X s (k+1)=⟨A',x.a,x.b,x.c,E',x.e,x.f,x.g⟩:=by rw [←HST.out,HX.out];rfl
     have hf:RowAt .u64 (w'.alloc (.cells #[.int .u64 A',.int .u64 x.a,.int .u64 x.b,.int .u64 x.c,.int .u64 E',.int .u64 x.e,.int .u64 x.f,.int .u64 x.g] 210)) w'.heap.size 0 8 (roundsS rn K X s (k+1)).at:=by
      rw [hst]
      exact RowAt.fresh (fun j hj=>by
       match j,hj with
       | 0,_=>rfl
       | 1,_=>rfl
       | 2,_=>rfl
       | 3,_=>rfl
       | 4,_=>rfl
       | 5,_=>rfl
       | 6,_=>rfl
       | 7,_=>rfl)
     have hbz:=hbn.size
     have hbf:=hbel.trans ((hbn.alloc hbn.size (.cells #[.int .u64 A',.int .u64 x.a,.int .u64 x.b,.int .u64 x.c,.int .u64 E',.int .u64 x.e,.int .u64 x.f,.int .u64 x.g] 210)).mono hsz)
     exact ⟨k+1,w'.heap.size,8,hlt,by go_num,rfl,by omega,hf,hbf⟩
    case measure=>simp [intOf];omega
  · have hke:k=64:=by omega
    rw [hke] at hrow
    clear hke
    have hw3:Below w.heap.size w wr:=hw2.trans (hbel.mono hs2)
    obtain ⟨x,hxe⟩:∃ x,x=roundsS rn K X s 64:=⟨_,rfl⟩
    have HX:Hid (x=roundsS rn K X s 64):=hxe
    rw [←hxe] at hrow
    have hrs0:∀ W,Below w.heap.size w W→∀ j,j<8→W.cell? ⟨gs,j,none⟩=some (.int .u64 (s.at j)):=fun W h j hj=>(h.cell (p:=⟨gs,j,none⟩) hgs).trans (hrs j hj)
    clear hxe hL2 hZ2 hrw hrk2 hrs2 hw2 hrs
    obtain ⟨z0,z1,z2,z3,z4,z5,z6⟩:=id hZ
    go_wp2
    clear z0 z1 z2 z3 z4 z5 z6
    go_loopw [15] (fun i wq=>∃ k:Nat,k≤8∧i = .int .i64 k∧RowAt .u64 wq g 0 8 (addG 32 s x k)∧Below w.heap.size w wq∧ZBox32 wq w.heap.size g0 g1 g2 g3∧w.heap.size<wq.heap.size) (fun i _=>8 - (intOf i).toNat)
    case atStart=>exact ⟨0,Nat.zero_le _,rfl,hrow.congr (fun j _=>by simp [addG]),hw3,hZ,by omega⟩
    case round =>
     clear hrow hZ hw3 hgl hsz hbel hlt hk
     obtain ⟨k,hk,rfl,hr,hbq,hZq,hzq⟩:=hrel
     by_cases hlt:k<8
     · obtain ⟨z0,z1,z2,z3,z4,z5,z6⟩:=id hZq
       obtain ⟨rx,rf⟩:=hr k hlt
       rw [Nat.zero_add] at rx rf
       have hgq:g<wr.heap.size:=block_lt_of_cell rx
       have rs:=hrs0 _ hbq k hlt
       have ea:addG 32 s x k k=x.at k:=by simp [addG]
       rw [ea] at rx
       have hcut:∀ W':World,Calls Tryz.prog 233 #[(.agg #[.int .i64 32,.int .i64 64,.int .i64 64,.slice (some ⟨g0,0,none⟩) 3 3,.slice (some ⟨g1,0,none⟩) 3 3,.slice (some ⟨g2,0,none⟩) 3 3,.slice (some ⟨g3,0,none⟩) 3 3]),.int .u64 (IntKind.u64.wrap ((x.at k:Int)+s.at k))] W' fun e w'=>e = .returned (.int .u64 (((s.at k+x.at k)%2 ^ 32:Nat):Int))∧Below W'.heap.size W' w':=fun W'=>by
        simp only [IntKind.wrap_u64]
        rw [addv_64,Nat.add_comm (s.at k)]
        exact cutT_32 g0 g1 g2 g3 (x.at k+s.at k) W'
       have hb0:Below wr.heap.size wr wr.drew:=(Below.refl _ _).drew
       go_wp2
       go_region_with ((go_at_call 233;refine (hcut _).mono ?_;rintro e w' ⟨rfl,hb⟩;have hbn:=below_next hb0 hb;have rx':=(hbn.cell (p:=⟨g,k,none⟩) hgq).trans rx;have rf':=(hbn.frozen (p:=⟨g,k,none⟩) hgq).trans rf))
       all_goals
        go_wp2
        go_roundw
        case rel =>
         have h1:=(hr.below hbn hgq).set (i:=k) hlt (v:=(((s.at k+x.at k)%2 ^ 32:Nat):Int)) (u:=(s.at k+x.at k)%2 ^ 32) rfl
         rw [Nat.zero_add] at h1
         have hbs:=hbn.size
         have hbq':=hbq.size
         refine ⟨k+1,by omega,by go_num,h1.congr (fun j hj => ?_),(hbq.trans (hbn.mono hbq')).setCell (by show w.heap.size≤g;omega) _,?_,by simp;omega⟩
         · exact addG_step _ _ _ _ _
         · have hz:=hZq.below hbn
           unfold ZBox32 at *
           have hne:∀ v q,(w'.setCell ⟨g,k,none⟩ v).cell? ⟨w.heap.size,q,none⟩=w'.cell? ⟨w.heap.size,q,none⟩:=fun v q=>World.cell?_setCell_other _ _ _ _ (by intro h;injection h;omega)
           simp only [hne]
           exact hz
        case measure=>simp [intOf];omega
     · have hke:k=8:=by omega
       subst hke
       go_wp2
       go_ret
       refine ⟨g,c,rfl,by omega,hr.congr (fun j hj => ?_),hbq⟩
       rw [←HX.out]
       exact addG_end rn s x j hj
end Go.Proofs.YtddkbmnkbfciaaaGreatDoor
namespace Go.Proofs.YtddkbmnkbfciaaaGreatDoor
open Go.RowKit
theorem padG_at (N c:Nat):∀ i j,i≤8→9≤N→j<N→padG N c i j=if N - i≤j then c*8 / 2 ^ (8*(N - 1 - j))%256 else if j=0 then 128 else 0
 | 0,j,_,_,hj=>by
  rw [if_neg (by omega)]
  unfold padG upd
  rfl
 | i+1,j,hi,hN,hj=>by
  unfold padG upd
  by_cases e:j=N - 1 - i
  · rw [if_pos e,if_pos (by omega),show N - 1 - j=i by omega]
  · rw [if_neg e,padG_at N c i j (by omega) hN hj]
    by_cases e2:N - i≤j
    · rw [if_pos e2,if_pos (by omega)]
    · rw [if_neg e2,if_neg (show ¬(N - (i+1)≤j) by omega)]
theorem padN32_ge (c:Nat):9≤padN rn c:=by
 show 9≤1+(4*32 - 1 - 32 / 4 - c%(2*32))%(2*32)+32 / 4
 omega
theorem padF32_first (c:Nat):padF rn c 0=128:=by
 have h:=padN32_ge c
 unfold padF
 rw [padG_at _ c 8 0 (Nat.le_refl _) (by omega) (by omega),if_neg (by omega),if_pos rfl]
theorem padF32_mid (c t:Nat) (h0:0<t) (ht:t+8<padN rn c):padF rn c t=0:=by
 unfold padF
 rw [padG_at _ c 8 t (Nat.le_refl _) (by omega) (by omega),if_neg (by omega),if_neg (by omega)]
theorem padF32_last (c i t:Nat) (hi:i<8) (ht:t+1+i=padN rn c):padF rn c t=c*8 / 2 ^ (8*i)%256:=by
 have h:=padN32_ge c
 unfold padF
 rw [padG_at _ c 8 t (Nat.le_refl _) (by omega) (by omega),if_pos (by omega),show padN rn c - 1 - t=i by omega]
set_option maxRecDepth 20000 in
set_option maxHeartbeats 2000000 in
theorem padded32_any (g0 g1 g2 g3:Nat) (v:Value) (n:Nat) (bs:Nat→Nat) (w:World) (hv:BytesIn w v n bs) (hn:n<140737488355000) :
 Calls Tryz.prog 195 #[(.agg #[.int .i64 32,.int .i64 64,.int .i64 64,.slice (some ⟨g0,0,none⟩) 3 3,.slice (some ⟨g1,0,none⟩) 3 3,.slice (some ⟨g2,0,none⟩) 3 3,.slice (some ⟨g3,0,none⟩) 3 3]),v] w fun e w'=>∃ v',e = .returned v'∧Own w.heap.size w' v' (n+padN rn n) (cat n bs (padF rn n))∧Below w.heap.size w w':=by
 obtain ⟨xo,cx,rfl,hxn,-,hsrc⟩:=hv.src
 clear hv
 obtain ⟨F,hF⟩:∃ F,F=cat n bs (padF rn n):=⟨_,rfl⟩
 have HF:Hid (F=cat n bs (padF rn n)):=hF
 obtain ⟨Z,hZ⟩:∃ Z,Z=(4*32 - 1 - 8 - n%64)%64:=⟨_,rfl⟩
 have hN:padN rn n=1+Z+8:=by rw [hZ];rfl
 have F0:∀ j,j<n→F j=bs j:=fun j hj=>by rw [hF,cat_left hj]
 have F1:F n=128:=by rw [hF];unfold cat;rw [if_neg (by omega),Nat.sub_self];exact padF32_first n
 have F2:∀ k,k<Z→F (n+1+k)=0:=fun k hk=>by rw [hF,Nat.add_assoc,cat_right];exact padF32_mid n _ (by omega) (by omega)
 have F3:∀ k,k+8<8→F (n+1+Z+k)=0:=fun k hk=>by rw [hF,Nat.add_assoc,Nat.add_assoc,cat_right];exact padF32_mid n _ (by omega) (by omega)
 have F4:∀ k i,i<8→k+1+i=8→F (n+1+Z+k)=n*8 / 2 ^ (8*i)%256:=fun k i hi hk=>by rw [hF,Nat.add_assoc,Nat.add_assoc,cat_right];exact padF32_last n i _ hi (by omega)
 rw [hN,←hF]
 have hbZ:Below w.heap.size w (w.alloc (.cells #[.int .i64 32,.int .i64 64,.int .i64 64,.slice (some ⟨g0,0,none⟩) 3 3,.slice (some ⟨g1,0,none⟩) 3 3,.slice (some ⟨g2,0,none⟩) 3 3,.slice (some ⟨g3,0,none⟩) 3 3] 162)):=(Below.refl _ _).alloc (Nat.le_refl _) _
 have hzb:=zbox32 w g0 g1 g2 g3
 obtain ⟨W,hW⟩:∃ W,W=w.alloc (.cells #[.int .i64 32,.int .i64 64,.int .i64 64,.slice (some ⟨g0,0,none⟩) 3 3,.slice (some ⟨g1,0,none⟩) 3 3,.slice (some ⟨g2,0,none⟩) 3 3,.slice (some ⟨g3,0,none⟩) 3 3] 162):=⟨_,rfl⟩
 have HW:Hid (W=w.alloc (.cells #[.int .i64 32,.int .i64 64,.int .i64 64,.slice (some ⟨g0,0,none⟩) 3 3,.slice (some ⟨g1,0,none⟩) 3 3,.slice (some ⟨g2,0,none⟩) 3 3,.slice (some ⟨g3,0,none⟩) 3 3] 162)):=hW
 have hWs:W.heap.size=w.heap.size+1:=by rw [hW];simp
 rw [←hW] at hbZ hzb
 have hW0:w.heap.size+1≤W.heap.size:=by omega
 have src0:Src (W.alloc (.cells #[] 5)) xo n F:=by
  rcases hsrc _ (hbZ.alloc (by omega) (.cells #[] 5)) with h | ⟨bb,ob,h1,h2⟩
  · exact .inl h
  · exact .inr ⟨bb,ob,h1,fun j hj=>by rw [F0 j hj];exact h2 j hj⟩
 clear hF hW hsrc F0
 go_enter Tryz.func195,Tryz.ntmps195
 go_wp2_with (first
  | (at_builtin;rw [←HW.out];go_loud (refine wpList_append_empty rfl (.tmp 8) (.tmp 9) rfl (w.heap.size+1) F (w.heap.size+1) hWs rfl xo n cx rfl src0 hxn (by omega) hW0 ?_);intro v1 w1 own1 hb1;have hs1:=hb1.size;clear src0)
  | (at_builtin;refine wpList_append_next rfl (.tmp 10) (.tmp 11) rfl (w.heap.size+1) v1 n F _ rfl own1 rfl (by rw [F1];rfl) (by omega) (by omega) ?_;intro v2 w2 own2 hb2;replace hb2:=hb1.trans hb2;clear own1 hb1 hs1))
 have hzw:∀ wr,Below (w.heap.size+1) W wr→wr.cell? ⟨w.heap.size,1,none⟩=some (.int .i64 64):=fun wr h=>(h.cell (p:=⟨w.heap.size,1,none⟩) (Nat.lt_succ_self _)).trans hzb.2.1
 go_loopw [5] (fun v wr=>∃ k:Nat,k≤Z∧Own (w.heap.size+1) wr v (n+1+k) F∧Below (w.heap.size+1) W wr) (fun v _=>n+1+Z - lenV v)
 case atStart=>exact ⟨0,Nat.zero_le _,own2,hb2⟩
 case round =>
  clear own2 hb2
  obtain ⟨k,hk,own,hb⟩:=hrel
  obtain ⟨L,hL⟩:∃ L,L=n+1+k:=⟨_,rfl⟩
  have HL:Hid (L=n+1+k):=hL
  rw [←hL] at own
  rcases own.form with ⟨-,h0⟩ | ⟨g,cap,rfl,-,-,-,-⟩
  · omega
  have hs:=hb.size
  have hz1:=hzw _ hb
  have hLb:L<140737488355300:=by omega
  by_cases hlt:k<Z
  · have hc:((L:Int)+8)%64≠0:=by omega
    have hFL:Hid ((0:Int)=(F L:Int)):=(by rw [hL,F2 k hlt];rfl:(0:Int)=(F L:Int))
    clear hL hZ hN
    go_wp2_with (at_builtin;go_loud (refine wpList_append_next rfl (.tmp 23) (.tmp 24) rfl (w.heap.size+1) _ L F _ rfl own rfl hFL.out (by omega) (by omega) ?_);intro v3 w3 own3 hb3)
    rcases own3.form with ⟨-,h0⟩ | ⟨g3,cap3,rfl,-,-,-,-⟩
    · omega
    go_roundw
    case rel=>exact ⟨k+1,by omega,own3.start (by have:=HL.out;omega),hb.trans hb3⟩
    case measure=>have:=HL.out;simp [lenV];omega
  · have hc:((L:Int)+8)%64=0:=by omega
    have hkZ:k=Z:=by omega
    rw [hkZ] at hL
    have HLZ:Hid (L=n+1+Z):=hL
    clear hL hkZ hZ
    go_wp2
    clear hz1 hc
    go_loopw [5,7] (fun v i wq=>∃ k:Nat,k≤8∧i = .int .i64 (8 - 1 - (k:Int))∧Own (w.heap.size+1) wq v (L+k) F∧Below (w.heap.size+1) W wq) (fun v _ _=>L+8 - lenV v)
    case atStart=>exact ⟨0,Nat.zero_le _,by go_num,own,hb⟩
    case round =>
     clear own hb hs hlt hk
     obtain ⟨q,hq,rfl,own,hb⟩:=hrel
     have hs:=hb.size
     rcases own.form with ⟨-,h0⟩ | ⟨g,cap,rfl,-,-,-,-⟩
     · have:=HLZ.out;omega
     by_cases hlt:q<8
     · obtain ⟨i,hi⟩:∃ i:Nat,i=8 - 1 - q:=⟨_,rfl⟩
       have hii:(8 - 1 - (q:Int))=(i:Int):=by omega
       have hi8:i<8:=by omega
       rw [hii]
       have hF8:8≤i→(0:Int)=(F (L+q):Int):=fun h=>by rw [HLZ.out,F3 q (by omega)];rfl
       have hF7:i<8→(((n*8 / 2 ^ (8*i)%256:Nat)):Int)=(F (L+q):Int):=fun h=>by rw [HLZ.out,F4 q i h (by omega)]
       have HI:Hid (i=8 - 1 - q):=hi
       clear hi hii
       by_cases h8:8≤i
       · omega
       · have hF:Hid ((((n*8 / 2 ^ (8*i)%256:Nat)):Int)=(F (L+q):Int)):=hF7 (by omega)
         clear hF7 hF8
         go_wp2_with (at_builtin;go_loud (refine wpList_append_next rfl (.tmp 43) (.tmp 50) rfl (w.heap.size+1) _ (L+q) F _ rfl own rfl (by rw [←hF.out];simp) (by omega) (by omega) ?_);intro v3 w3 own3 hb3)
         rcases own3.form with ⟨-,h0⟩ | ⟨g3,cap3,rfl,-,-,-,-⟩
         · omega
         go_roundw
         case rel=>exact ⟨q+1,by omega,by have:=HI.out;go_num,own3.start (by omega),hb.trans hb3⟩
         case measure=>simp [lenV];omega
     · have hqe:q=8:=by omega
       go_wp2
       go_ret
       refine ⟨_,rfl,?_,?_⟩
       · exact own_base (own.start (by have:=HLZ.out;omega)) (by omega)
       · exact hbZ.trans (hb.mono (by omega))
end Go.Proofs.YtddkbmnkbfciaaaGreatDoor
namespace Go.Proofs.YtddkbmnkbfciaaaGreatDoor
open Go.RowKit
theorem row_new (K:IntKind) (w:World) (n:Nat) (X:Nat→Nat) (t:TypeId):RowAt K (w.alloc (.cells (ints K n X).toArray t)) w.heap.size 0 n X:=RowAt.fresh (fun j hj=>by rw [List.getElem?_toArray,ints_at _ _ _ j hj])
set_option maxRecDepth 20000 in
set_option maxHeartbeats 2000000 in
theorem constants_any (w:World):Calls Tryz.prog 193 #[] w fun e w'=>∃ g,e = .returned (.slice (some ⟨g,0,none⟩) 80 80)∧w.heap.size≤g∧RowAt .u64 w' g 0 80 cubeK∧Below w.heap.size w w':=by
 go_enter Tryz.func193,Tryz.ntmps193
 go_wp2
 go_ret
 refine ⟨_,rfl,Nat.le_refl _,?_,(Below.refl _ _).alloc (Nat.le_refl _) _⟩
 have h:=row_new .u64 w 80 cubeK 210
 have e:(ints .u64 80 cubeK).toArray=#[.int .u64 4794697086780616226,.int .u64 8158064640168781261,.int .u64 13096744586834688815,.int .u64 16840607885511220156,.int .u64 4131703408338449720,.int .u64 6480981068601479193,.int .u64 10538285296894168987,.int .u64 12329834152419229976,.int .u64 15566598209576043074,.int .u64 1334009975649890238,.int .u64 2608012711638119052,.int .u64 6128411473006802146,.int .u64 8268148722764581231,.int .u64 9286055187155687089,.int .u64 11230858885718282805,.int .u64 13951009754708518548,.int .u64 16472876342353939154,.int .u64 17275323862435702243,.int .u64 1135362057144423861,.int .u64 2597628984639134821,.int .u64 3308224258029322869,.int .u64 5365058923640841347,.int .u64 6679025012923562964,.int .u64 8573033837759648693,.int .u64 10970295158949994411,.int .u64 12119686244451234320,.int .u64 12683024718118986047,.int .u64 13788192230050041572,.int .u64 14330467153632333762,.int .u64 15395433587784984357,.int .u64 489312712824947311,.int .u64 1452737877330783856,.int .u64 2861767655752347644,.int .u64 3322285676063803686,.int .u64 5560940570517711597,.int .u64 5996557281743188959,.int .u64 7280758554555802590,.int .u64 8532644243296465576,.int .u64 9350256976987008742,.int .u64 10552545826968843579,.int .u64 11727347734174303076,.int .u64 12113106623233404929,.int .u64 14000437183269869457,.int .u64 14369950271660146224,.int .u64 15101387698204529176,.int .u64 15463397548674623760,.int .u64 17586052441742319658,.int .u64 1182934255886127544,.int .u64 1847814050463011016,.int .u64 2177327727835720531,.int .u64 2830643537854262169,.int .u64 3796741975233480872,.int .u64 4115178125766777443,.int .u64 5681478168544905931,.int .u64 6601373596472566643,.int .u64 7507060721942968483,.int .u64 8399075790359081724,.int .u64 8693463985226723168,.int .u64 9568029438360202098,.int .u64 10144078919501101548,.int .u64 10430055236837252648,.int .u64 11840083180663258601,.int .u64 13761210420658862357,.int .u64 14299343276471374635,.int .u64 14566680578165727644,.int .u64 15097957966210449927,.int .u64 16922976911328602910,.int .u64 17689382322260857208,.int .u64 500013540394364858,.int .u64 748580250866718886,.int .u64 1242879168328830382,.int .u64 1977374033974150939,.int .u64 2944078676154940804,.int .u64 3659926193048069267,.int .u64 4368137639120453308,.int .u64 4836135668995329356,.int .u64 5532061633213252278,.int .u64 6448918945643986474,.int .u64 6902733635092675308,.int .u64 7801388544844847127]:=by kernel_rfl
 rw [e] at h
 exact h
theorem first_any (w:World):Calls Tryz.prog 194 #[] w fun e w'=>∃ g,e = .returned (.slice (some ⟨g,0,none⟩) 8 8)∧w.heap.size≤g∧RowAt .u64 w' g 0 8 squareK∧Below w.heap.size w w':=by
 go_enter Tryz.func194,Tryz.ntmps194
 go_wp2
 go_ret
 exact ⟨_,rfl,Nat.le_refl _,row_new .u64 w 8 squareK 210,(Below.refl _ _).alloc (Nat.le_refl _) _⟩
theorem sliceMid (W:World) (bb ob n cap l m:Nat) (hm:0<m) (h:l+m≤cap):(Instr.sliceAt 29 (.slice (some ⟨bb,ob,none⟩) n cap) (some (.int .i64 l)) (some (.int .i64 ((l:Int)+m))) none).run Tryz.prog W = .ok (.slice (some ⟨bb,ob+l,none⟩) m (cap - l)) W:=by
 have h1:Tryz.prog.underlying 29=some (.slice (Tryz.prog.elem 29)):=by kernel_rfl
 have h2:Tryz.prog.elem 29=5:=by kernel_rfl
 have h3:((sizeOf 5).run Tryz.prog W) = .ok 1 W:=by kernel_rfl
 rw [run_sliceAt_slice W 29 _ _ _ _ h1,run_slice_lh W 29 _ n cap h1 .i64 .i64 l ((l:Int)+m) (by omega) (by omega) (by omega),h2,h3]
 have e2:((l:Int)+m).toNat=l+m:=by omega
 have e3:¬(cap=l):=by omega
 simp [sliced,Addr.add_mid,Option.map,e2,e3]
 try omega
theorem step_append_next64 {ops:Array Oper} {o:Oper} {a:Act} {w:World} {K:Act→World→Prop} {Q:Exit→Act→World→Prop} {E:Prop} (hgd:o.guard=none) (s x:Operand)
 (ho:o.op = .call { callee := .builtin .append,args:=#[s,x],argTypes:=#[208,208] }) (base:Nat)
 (v:Value) (n:Nat) (F:Nat→Nat) (y:Int) (hs:a.eval s=v) (hown:w.ownsRow base 210 1 v n (ints .u64 n F)) (g:Nat) (hg:w.heap.size=g) (hx:a.eval x = .slice (some ⟨g,0,none⟩) 1 1) (hF:y=(F n:Int))
 (hl:n+1≤1000000) (hbase:base≤w.heap.size)
 (h:∀ v' w',w'.ownsRow base 210 1 v' (n+1) (ints .u64 (n+1) F)→Below base w w'→K (a.put o.dst v') w') :
 if Region.wanted o (yielded ops a.tmps)=true then Oper.wp Tryz.prog o a (w.alloc (.cells #[.int .u64 y] 210)) K Q else E:=by
 obtain ⟨i0,hi,hz0,hz1,hz2⟩:=info_parts Tryz.info210
 subst hg
 subst hF
 have hz:base≤(w.alloc (.cells #[.int .u64 (F n:Int)] 210)).heap.size:=by simp only [World.size_alloc];omega
 refine step_append_lies (P:=Tryz.prog) (w:=w.alloc (.cells #[.int .u64 (F n:Int)] 210)) hgd s x 208 ho base 210 i0 (.int .u64 0) 1 8 Tryz.underlying208 hi hz0 hz1 hz2 rfl (by decide) v n _ hs (hown.alloc _) ⟨w.heap.size,0,none⟩ 1 1 [.int .u64 (F n)] hx rfl (one_new _ _ _) (one_cell _ _) (by decide) (by unfold maxLen;omega) (by omega) hz _ rfl ?_
 intro g' cap' w' h1 h2 _ _
 rw [ints_snoc] at h1
 exact h _ w' h1 (below_grown ((Below.refl _ _).alloc hbase _) h2 (hown.alloc _) (Nat.le_refl _) hz)
theorem cell_top (w:World) (cs:Array Value) (t:TypeId) (b j:Nat) (hb:b=w.heap.size):(w.alloc (.cells cs t)).cell? ⟨b,j,none⟩=cs[j]?:=by
 subst hb
 rw [cell_of_row _ _ j _ _ _ (heap_alloc_new w _)]
theorem padN32_mod (n:Nat):∃ T,n+padN rn n=T*64∧0<T:=by
 refine ⟨(n+padN rn n) / 64,?_⟩
 have e:padN rn n=1+(4*32 - 1 - 32 / 4 - n%(2*32))%(2*32)+32 / 4:=rfl
 omega
theorem hsmall_any (w:World):Calls Tryz.prog 137 #[] w fun e w'=>∃ g0 g1 g2 g3,e = .returned (.agg #[.int .i64 32,.int .i64 64,.int .i64 64,.slice (some ⟨g0,0,none⟩) 3 3,.slice (some ⟨g1,0,none⟩) 3 3,.slice (some ⟨g2,0,none⟩) 3 3,.slice (some ⟨g3,0,none⟩) 3 3])∧Lists32 w' g0 g1 g2 g3∧Below w.heap.size w w':=by
 go_enter Tryz.func137,Tryz.ntmps137
 go_wp2
 refine bodyPost_ret (results_cell_mid Tryz.results137 _ _ w.heap.size 0 [.int .i64 32,.int .i64 64,.int .i64 64,.slice (some ⟨w.heap.size+1,0,none⟩) 3 3,.slice (some ⟨w.heap.size+1+1,0,none⟩) 3 3,.slice (some ⟨w.heap.size+1+1+1,0,none⟩) 3 3,.slice (some ⟨w.heap.size+1+1+1+1,0,none⟩) 3 3] _ rfl ?hc Tryz.underlying162 rfl (by kernel_rfl)) rfl ⟨_,_,_,_,rfl,?hl,?hb⟩
 case hc =>
  intro j u hu
  have hj:j<7:=(List.getElem?_eq_some_iff.1 hu).1
  repeat rw [World.cell?_alloc_lt _ _ _ (by simp only [World.size_alloc];omega)]
  rw [cell_top _ _ _ _ _ rfl,Nat.zero_add,←hu]
  match j,hj with
  | 0,_=>rfl
  | 1,_=>rfl
  | 2,_=>rfl
  | 3,_=>rfl
  | 4,_=>rfl
  | 5,_=>rfl
  | 6,_=>rfl
 case hl =>
  constructor <;> ((repeat rw [World.cell?_alloc_lt _ _ _ (by simp only [World.size_alloc];omega)]);rw [cell_top _ _ _ _ _ (by simp only [World.size_alloc])];rfl)
 case hb=>exact (((((Below.refl _ _).alloc (Nat.le_refl _) _).alloc (by simp) _).alloc (by simp;omega) _).alloc (by simp;omega) _).alloc (by simp;omega) _
end Go.Proofs.YtddkbmnkbfciaaaGreatDoor
