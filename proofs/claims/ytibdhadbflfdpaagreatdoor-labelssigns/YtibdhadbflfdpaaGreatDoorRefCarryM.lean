/- What the proof stands on: RefCarry, RefSmall, RefFrom, RefSub. -/
import Derived.Test.YtibdhadbflfdpaaGreatDoorIRowM
namespace Go.Proofs.YtibdhadbflfdpaaGreatDoor
open Nat renaming le_refl → JW
open Go renaming wpList_store_mid → J2
open Go renaming wpList_load_mid → J3
open Go.RowKit
def zI:Array Value:=Array.replicate 16 (.int .i64 0)
theorem dS (j:Nat) (h:j<16):zI[j]? = some (.int .i64 0):=by simp [zI,h]
theorem dC (w:World):Sem.run Tryz.prog (zeroValue 92) w = .ok (.agg zI) w:=by kernel_rfl
theorem FR:(Tryz.prog.info? 92).map (·.size)=some 16:=by kernel_rfl
theorem a8 (L:Nat→Int):(Tryz.prog.info? 92).map (·.size)=some (af 16 L).length:=by rw [bl];exact FR
theorem bH (L:Nat→Int):(Tryz.prog.info? 92).map (·.size)=some (af 16 L).toArray.size:=by rw [an];exact FR
theorem eM (L:Nat→Int):(af 16 L).toArray.all (·.oneCell')=true:=all_oneCell_toArray (gO 16 L)
theorem BT (L:Nat→Int) (j:Nat):(if 0=16 then aq L else Dw L 0) j=L j:=by
 rw [if_neg (by decide)];unfold Dw;rw [if_neg (Nat.not_lt_zero j)]
 by_cases e:j=0
 · rw [if_pos e,e];show L 0+0=L 0;omega
 · rw [if_neg e]
set_option maxRecDepth 20000 in
set_option maxHeartbeats 2000000 in
theorem dK (L:Nat→Int) (hL:∀ j,j<16→-4611686018427387904≤L j∧L j≤4611686018427387904) (w:World) :
 Calls Tryz.prog 178 #[bZ L] w fun e w'=>e = .returned (bZ (aq L))∧Below w.heap.size w w':=by
 have hz:=dC;have hcb:=Bx L 4611686018427387904 (by decide) hL
 obtain ⟨W,hW⟩:∃ W,W=(w.alloc (.cells (af 16 L).toArray 92)).alloc (.cells zI 92):=⟨_,rfl⟩
 have HW:=Hid.mk' hW
 have hWs:W.heap.size=w.heap.size+1+1:=by rw [hW];simp
 have hbW:Below w.heap.size w W:=by rw [hW];exact ((Below.refl _ _).alloc (JW _) _).alloc (by simp) _
 have hrow0:ap W w.heap.size 16 L:=by rw [hW];exact (ap.box w 16 L _).below ((Below.refl _ _).alloc (JW _) _) (by simp)
 have hres:ap W (w.heap.size+1) 16 (fun _=>0):=by
  have:=ap.fresh (w.alloc (.cells (af 16 L).toArray 92)) zI 92 (n:=16) (L:=fun _=>0) (fun j hj=>dS j hj);rw [World.size_alloc] at this;rw [hW];exact this
 unfold bZ;clear hW;go_enter Tryz.func178,Tryz.ntmps178;go_wp2;rw [←HW.out];go_loopw [3] (fun i wr=>∃ k:Nat,k≤16∧i = .int .i64 k∧ap wr w.heap.size 16 (if k=16 then aq L else Dw L k)∧ap wr (w.heap.size+1) 16 (fun _=>0)∧Below w.heap.size w wr) (fun i _=>16 - (intOf i).toNat)
 case atStart=>exact ⟨0,Nat.zero_le _,rfl,hrow0.congr (fun j _=>(BT L j).symm),hres,hbW⟩
 case round =>
  clear hrow0 hres hbW hz;obtain ⟨k,hk,rfl,hrow,hre,hb⟩:=hrel
  by_cases hlt:k<16
  · rw [if_neg (by omega)] at hrow
    obtain ⟨rk,fk⟩:=hrow k hlt
    have ek:Dw L k k=L k+cr L k:=by simp [Dw]
    rw [ek] at rk;have hc1:=hcb k (by omega);have hc2:=hcb (k+1) (by omega);have hl1:=hL k hlt;have ec:(L k+cr L k) / 65536=cr L (k+1):=rfl
    have hab:-4611826755915743233≤L k+cr L k∧L k+cr L k≤4611826755915743233:=by omega
    have hcb2:-140737488355329≤cr L (k+1)∧cr L (k+1)≤140737488355329:=by omega
    by_cases h15:k<15
    · obtain ⟨rn,fn⟩:=hrow (k+1) (by omega)
      have en:Dw L k (k+1)=L (k+1):=by unfold Dw;rw [if_neg (by omega),if_neg (by omega)]
      rw [en] at rn;have hl2:=hL (k+1) (by omega);clear hcb hL hc1 hc2 ek en;go_wp2;go_roundw
      case rel =>
       refine ⟨k+1,by omega,by go_num,?_,(hre.far (by show w.heap.size≠w.heap.size+1;omega) _).far (by show w.heap.size≠w.heap.size+1;omega) _,(hb.setCell (JW _) _).setCell (JW _) _⟩;have h1:=(hrow.set (i:=k) hlt (L k+cr L k - cr L (k+1)*65536)).set (i:=k+1) (by omega) (L (k+1)+cr L (k+1));refine h1.congr (fun j hj => ?_);rw [if_neg (by omega)];unfold ef Dw
       by_cases e1:j=k+1
       · subst e1;rw [if_pos rfl,if_neg (by omega),if_pos rfl]
       · rw [if_neg e1]
         by_cases e2:j=k
         · subst e2
           rw [if_pos rfl,if_pos (by omega)];rw [←ec];omega
         · rw [if_neg e2]
           by_cases e3:j<k
           · rw [if_pos e3,if_pos (by omega)]
           · rw [if_neg e3,if_neg e2,if_neg (by omega),if_neg e1]
      case measure=>simp [intOf];omega
    · have hke:k=15:=by omega
      subst hke;obtain ⟨rn,fn⟩:=hrow 0 (by decide)
      have en:Dw L 15 0=L 0%65536:=by unfold Dw;rw [if_pos (by decide)];show (L 0+0)%65536=_;rw [Int.add_zero]
      rw [en] at rn;clear hcb hL hc1 hc2 ek en
      have hm0:0≤L 0%65536∧L 0%65536<65536:=by omega
      have hcb3:-140737488355329≤cr L 16∧cr L 16≤140737488355329:=hcb2;have ec3:(L 15+cr L 15) / 65536=cr L 16:=rfl;clear hcb2 ec;go_wp2;go_roundw
      case rel =>
       refine ⟨16,by omega,by go_num,?_,(hre.far (by show w.heap.size≠w.heap.size+1;omega) _).far (by show w.heap.size≠w.heap.size+1;omega) _,(hb.setCell (JW _) _).setCell (JW _) _⟩;have h1:=(hrow.set (i:=15) (by decide) (L 15+cr L 15 - cr L 16*65536)).set (i:=0) (by decide) (L 0%65536+38*cr L 16);refine h1.congr (fun j hj => ?_);rw [if_pos rfl];unfold ef Dw aq
       by_cases e1:j=0
       · rw [if_pos e1,if_pos e1]
       · rw [if_neg e1,if_neg e1]
         by_cases e2:j=15
         · subst e2
           rw [if_pos rfl];show L 15+cr L 15 - (L 15+cr L 15) / 65536*65536=_;omega
         · rw [if_neg e2,if_pos (by omega)]
      case measure=>simp [intOf]
  · have hke:k=16:=by omega
    subst hke;rw [if_pos rfl] at hrow
    obtain ⟨X,hX⟩:∃ X,X=aq L:=⟨_,rfl⟩
    rw [←hX] at hrow;have HX:=Hid.mk' hX;clear hX hcb hL;have hi1:=a8 X;have hi2:=bH X;have ho:=eM X
    have hth:wr.there (w.heap.size+1) 0 (af 16 X).toArray.size:=by rw [an];exact hre.there
    go_wp2_with (first
     | (refine J3 rfl 92 _ rfl w.heap.size 0 rfl (af 16 X) _ hrow.range Tryz.underlying92 rfl hi1 ?_)
     | (refine J2 rfl 92 _ _ rfl (w.heap.size+1) 0 (af 16 X).toArray rfl rfl hth hi2 ho ?_))
    (try simp only [Exit.inBlock,Exit.then]);refine bodyPost_ret (ai Tryz.results178 _ _ (w.heap.size+1) 0 (af 16 X) _ rfl (World.rangeAt_setCells_same _ _ _ _ (by rw [bl];exact hre.there)) Tryz.underlying92 rfl hi1) rfl ⟨by rw [HX.out],?_⟩;exact ac (by omega) _ _ _ hb
def kg (x:Int):Nat→Int:=fun j=>if j<3 then x / 65536 ^ j%65536 else if j=3 then x / 65536 ^ 3 else 0
def Iz (x:Int) (k:Nat):Nat→Int:=fun j=>if j<k then x / 65536 ^ j%65536 else 0
theorem ze (x:Int):aQ (kg x) 16=x:=by
 have e:∀ j,4≤j→kg x j=0:=fun j h=>by unfold kg;rw [if_neg (by omega),if_neg (by omega)]
 simp only [aQ];rw [e 4 (by decide),e 5 (by decide),e 6 (by decide),e 7 (by decide),e 8 (by decide),e 9 (by decide),e 10 (by decide),e 11 (by decide),e 12 (by decide),e 13 (by decide),e 14 (by decide),e 15 (by decide)];simp only [kg];simp;omega
theorem Bl (x:Int):bits .and .i64 x 65535=x%65536:=by
 show IntKind.i64.wrap ((BitVec.ofInt 64 x &&& BitVec.ofInt 64 65535).toNat:Int)=_;rw [BitVec.toNat_and,BitVec.toNat_ofInt,show (BitVec.ofInt 64 65535).toNat=65535 by decide,Nat.and_two_pow_sub_one_eq_mod _ 16,IntKind.wrap_i64]
 have:((2:Nat) ^ 64:Int)=18446744073709551616:=by decide
 omega
set_option maxRecDepth 20000 in
set_option maxHeartbeats 2000000 in
theorem jI (x:Int) (h1:-9223372036854775808≤x) (h2:x≤9223372036854775807) (w:World) :
 Calls Tryz.prog 119 #[.int .i64 x] w fun e w'=>e = .returned (bZ (aq (kg x)))∧Below w.heap.size w w':=by
 have hz:=dC
 have hcar:=fun W=>dK (kg x) (fun j _=>by
  unfold kg
  split
  · omega
  · split
    · have:(65536:Int) ^ 3=281474976710656:=by decide
      rw [this];omega
    · decide) W
 obtain ⟨W,hW⟩:∃ W,W=(w.alloc (.cells zI 92)).alloc (.cells zI 92):=⟨_,rfl⟩
 have HW:=Hid.mk' hW
 have hWs:W.heap.size=w.heap.size+1+1:=by rw [hW];simp
 have hbW:Below w.heap.size w W:=by rw [hW];exact ((Below.refl _ _).alloc (JW _) _).alloc (by simp) _
 have hres:ap W w.heap.size 16 (fun _=>0):=by rw [hW];exact (ap.fresh w zI _ (fun j hj=>dS j hj)).below ((Below.refl _ _).alloc (JW _) _) (by simp)
 have hrow0:ap W (w.heap.size+1) 16 (Iz x 0):=by
  have:=ap.fresh (w.alloc (.cells zI 92)) zI 92 (n:=16) (L:=fun _=>0) (fun j hj=>dS j hj);rw [World.size_alloc] at this;rw [hW];exact this.congr (fun j _=>by unfold Iz;rw [if_neg (by omega)])
 obtain ⟨X,hX⟩:∃ X,X=aq (kg x):=⟨_,rfl⟩
 rw [←hX] at hcar ⊢;unfold bZ at hcar ⊢;clear hW hX;go_enter Tryz.func119,Tryz.ntmps119;go_wp2;rw [←HW.out];go_loopw [0,4] (fun y i wr=>∃ k:Nat,k≤3∧y = .int .i64 (x / 65536 ^ k)∧i = .int .i64 k∧ap wr (w.heap.size+1) 16 (Iz x k)∧ap wr w.heap.size 16 (fun _=>0)∧Below w.heap.size w wr∧w.heap.size+1<wr.heap.size) (fun _ i _=>3 - (intOf i).toNat)
 case atStart=>exact ⟨0,Nat.zero_le _,by simp,rfl,hrow0,hres,hbW,by omega⟩
 case round =>
  clear hrow0 hres hbW hz;obtain ⟨k,hk,rfl,rfl,hrow,hre,hb,hs⟩:=hrel
  by_cases hlt:k<3
  · obtain ⟨rk,fk⟩:=hrow k (by omega)
    obtain ⟨y,hy⟩:∃ y,y=x / 65536 ^ k:=⟨_,rfl⟩
    have hyd:y / 65536=x / 65536 ^ (k+1):=by rw [hy,Int.pow_succ,Int.ediv_ediv_of_nonneg (by exact Int.le_of_lt (Int.pow_pos (by decide)))]
    have hset:=(hrow.set (i:=k) (by omega) (y%65536)).congr (M:=Iz x (k+1)) (fun j hj=>by
     unfold ef Iz
     by_cases e:j=k
     · rw [if_pos e,if_pos (by omega),e,hy]
     · rw [if_neg e]
       by_cases e2:j<k
       · rw [if_pos e2,if_pos (by omega)]
       · rw [if_neg e2,if_neg (by omega)])
    have hma:=Bl y
    have hyb:-9223372036854775808≤y∧y≤9223372036854775807:=by
     have h3:k=0∨k=1∨k=2:=by omega
     rcases h3 with rfl | rfl | rfl <;> simp at hy <;> omega
    rw [←hy];have HS:=Hid.mk' hset;have HD:=Hid.mk' hyd;clear hcar hset hyd hy;go_wp2;go_roundw
    case rel=>exact ⟨k+1,by omega,by rw [HD.out],by go_num,HS.out,hre.far (by show w.heap.size+1≠w.heap.size;omega) _,hb.setCell (by show _≤w.heap.size+1;omega) _,by simpa using hs⟩
    case measure=>simp [intOf];omega
  · have hke:k=3:=by omega
    subst hke;obtain ⟨rk,fk⟩:=hrow 3 (by decide)
    obtain ⟨y,hy⟩:∃ y,y=x / 65536 ^ 3:=⟨_,rfl⟩
    rw [←hy]
    have hst:ap (wr.setCell ⟨w.heap.size+1,3,none⟩ (.int .i64 y)) (w.heap.size+1) 16 (kg x):=(hrow.set (i:=3) (by decide) y).congr (fun j hj=>by
     unfold ef Iz kg
     by_cases e:j=3
     · rw [if_pos e,if_neg (by omega),if_pos e,hy]
     · rw [if_neg e]
       by_cases e2:j<3
       · rw [if_pos e2,if_pos e2]
       · rw [if_neg e2,if_neg e2,if_neg e])
    have hre2:ap (wr.setCell ⟨w.heap.size+1,3,none⟩ (.int .i64 y)) w.heap.size 16 (fun _=>0):=hre.far (by show w.heap.size+1≠w.heap.size;omega) _;have hb2:Below w.heap.size w (wr.setCell ⟨w.heap.size+1,3,none⟩ (.int .i64 y)):=hb.setCell (by show _≤w.heap.size+1;omega) _
    have hs2:w.heap.size+1<(wr.setCell ⟨w.heap.size+1,3,none⟩ (.int .i64 y)).heap.size:=by simpa using hs
    obtain ⟨V,hV⟩:∃ V,V=wr.setCell ⟨w.heap.size+1,3,none⟩ (.int .i64 y):=⟨_,rfl⟩
    have HV:=Hid.mk' hV;rw [←hV] at hst hre2 hb2 hs2;have hcr:=hcar V;have hi1:=a8 (kg x);have hj1:=a8 X;have hi2:=bH X;have ho:=eM X;have hstr:=hst.range;clear hV hcar hrow hre hb hy
    go_wp2_with (first
     | (rw [←HV.out];refine J3 rfl 92 _ rfl (w.heap.size+1) 0 rfl (af 16 (kg x)) _ hstr Tryz.underlying92 rfl hi1 ?_)
     | (go_at_call 178;refine hcr.mono ?_;clear hcr;rintro e w1 ⟨rfl,hb1⟩;(have hC1:=hre2.below hb1 (by omega));(have hth:w1.there w.heap.size 0 (af 16 X).toArray.size:=by rw [an];exact hC1.there);(have hbw1:Below w.heap.size w w1:=hb2.trans (hb1.mono hb2.size)))
     | (refine J2 rfl 92 _ _ rfl w.heap.size 0 (af 16 X).toArray rfl rfl hth hi2 ho ?_))
    (try simp only [Exit.inBlock,Exit.then]);refine bodyPost_ret (ai Tryz.results119 _ _ w.heap.size 0 (af 16 X) _ rfl (World.rangeAt_setCells_same _ _ _ _ (by rw [bl];exact hC1.there)) Tryz.underlying92 rfl hj1) rfl ⟨rfl,?_⟩;exact ac (JW _) _ _ _ hbw1
def dw (bs:Nat→Nat):Nat→Int:=fun j=>(bs (2*j):Int)+(bs (2*j+1):Int)*256
theorem lX (bs:Nat→Nat):∀ n,aQ (dw bs) n=((aK bs (2*n):Nat):Int)
 | 0=>rfl
 | n+1=>by
  rw [aQ,lX bs n,show 2*(n+1)=2*n+1+1 by omega,aK,aK];unfold dw
  have e1:(65536:Int) ^ n=((256 ^ (2*n):Nat):Int):=by
   rw [Nat.pow_mul,show (256:Nat) ^ 2=65536 from rfl];simp
  rw [e1,Nat.pow_succ];generalize 256 ^ (2*n)=P;rw [Int.natCast_add,Int.natCast_add,Int.natCast_mul,Int.natCast_mul,Int.natCast_mul,Int.add_mul,Int.mul_comm (bs (2*n):Int),Int.mul_assoc (P:Int),Int.mul_comm ((bs (2*n+1):Int)*256) (P:Int),Int.mul_comm (bs (2*n+1):Int) 256,←Int.add_assoc];rfl
theorem rD (bs:Nat→Nat) (hb:∀ j,bs j<256) (j:Nat):0≤dw bs j∧dw bs j≤65535:=by
 have h1:=hb (2*j);have h2:=hb (2*j+1);unfold dw;omega
set_option maxRecDepth 20000 in
set_option maxHeartbeats 2000000 in
theorem AJ (bb ob c:Nat) (bs:Nat→Nat) (hbs:∀ j,bs j<256) (w:World) (hbl:bb<w.heap.size) (hc:∀ j,j<32→w.cell? ⟨bb,ob+j,none⟩=some (.int .u8 (bs j))) :
 Calls Tryz.prog 117 #[.slice (some ⟨bb,ob,none⟩) 32 c] w fun e w'=>e = .returned (bZ (dw bs))∧Below w.heap.size w w':=by
 have hz:=dC
 obtain ⟨W,hW⟩:∃ W,W=(w.alloc (.cells zI 92)).alloc (.cells zI 92):=⟨_,rfl⟩
 have HW:=Hid.mk' hW
 have hWs:W.heap.size=w.heap.size+1+1:=by rw [hW];simp
 have hbW:Below w.heap.size w W:=by rw [hW];exact ((Below.refl _ _).alloc (JW _) _).alloc (by simp) _
 have hres:ap W w.heap.size 16 (fun _=>0):=by rw [hW];exact (ap.fresh w zI _ (fun j hj=>dS j hj)).below ((Below.refl _ _).alloc (JW _) _) (by simp)
 have hrow0:ap W (w.heap.size+1) 16 (fun _=>0):=by
  have:=ap.fresh (w.alloc (.cells zI 92)) zI 92 (n:=16) (L:=fun _=>0) (fun j hj=>dS j hj);rw [World.size_alloc] at this;rw [hW];exact this
 unfold bZ;clear hW;go_enter Tryz.func117,Tryz.ntmps117;go_wp2;rw [←HW.out];go_loopw [4] (fun i wr=>∃ k:Nat,k≤16∧i = .int .i64 k∧ap wr (w.heap.size+1) 16 (fun j=>if j<k then dw bs j else 0)∧ap wr w.heap.size 16 (fun _=>0)∧Below w.heap.size w wr) (fun i _=>16 - (intOf i).toNat)
 case atStart=>exact ⟨0,Nat.zero_le _,rfl,hrow0.congr (fun j _=>by simp),hres,hbW⟩
 case round =>
  clear hrow0 hres hbW hz;obtain ⟨k,hk,rfl,hrow,hre,hb⟩:=hrel
  by_cases hlt:k<16
  · obtain ⟨rk,fk⟩:=hrow k hlt
    have rk0:wr.cell? ⟨w.heap.size+1,k,none⟩=some (.int .i64 0):=by simpa using rk
    have d0:wr.cell? ⟨bb,ob+2*k,none⟩=some (.int .u8 (bs (2*k))):=(hb.cell (p:=⟨bb,ob+2*k,none⟩) hbl).trans (hc (2*k) (by omega));have d1:wr.cell? ⟨bb,ob+(2*k+1),none⟩=some (.int .u8 (bs (2*k+1))):=(hb.cell (p:=⟨bb,ob+(2*k+1),none⟩) hbl).trans (hc (2*k+1) (by omega));have b0:=hbs (2*k);have b1:=hbs (2*k+1)
    have q1:(2*(k:Int)).toNat=2*k:=by omega
    have q2:(2*(k:Int)+1).toNat=2*k+1:=by omega
    have q3:(0:Int)≤2*(k:Int)∧2*(k:Int)<32:=by omega
    have q4:(0:Int)≤2*(k:Int)+1∧2*(k:Int)+1<32:=by omega
    clear rk;go_wp2;go_region;go_wp2;go_roundw
    case rel =>
     refine ⟨k+1,by omega,by go_num,?_,(hre.far (by show w.heap.size+1≠w.heap.size;omega) _).drew,(hb.setCell (by show w.heap.size≤w.heap.size+1;omega) _).drew⟩;have h1:=(hrow.set (i:=k) hlt ((bs (2*k):Int)+(bs (2*k+1):Int)*256)).drew;refine h1.congr (fun j hj => ?_);unfold ef
     by_cases e1:j=k
     · rw [if_pos e1,if_pos (by omega),e1];rfl
     · rw [if_neg e1]
       show (if j<k then dw bs j else 0)=_
       by_cases e2:j<k
       · rw [if_pos e2,if_pos (by omega)]
       · rw [if_neg e2,if_neg (by omega)]
    case measure=>simp [intOf];omega
  · have hke:k=16:=by omega
    subst hke;have hrow2:ap wr (w.heap.size+1) 16 (dw bs):=hrow.congr (fun j hj=>by rw [if_pos hj]);have hi1:=a8 (dw bs);have hi2:=bH (dw bs);have ho:=eM (dw bs)
    have hth:wr.there w.heap.size 0 (af 16 (dw bs)).toArray.size:=by rw [an];exact hre.there
    go_wp2_with (first
     | (refine J3 rfl 92 _ rfl (w.heap.size+1) 0 rfl (af 16 (dw bs)) _ hrow2.range Tryz.underlying92 rfl hi1 ?_)
     | (refine J2 rfl 92 _ _ rfl w.heap.size 0 (af 16 (dw bs)).toArray rfl rfl hth hi2 ho ?_))
    (try simp only [Exit.inBlock,Exit.then]);refine bodyPost_ret (ai Tryz.results117 _ _ w.heap.size 0 (af 16 (dw bs)) _ rfl (World.rangeAt_setCells_same _ _ _ _ (by rw [bl];exact hre.there)) Tryz.underlying92 rfl hi1) rfl ⟨rfl,?_⟩;exact ac (JW _) _ _ _ hb
theorem IY (v:Value) (bs:Nat→Nat) (hbs:∀ j,bs j<256) (w:World) (hv:ae w v 32 bs):Calls Tryz.prog 117 #[v] w fun e w'=>e = .returned (bZ (dw bs))∧Below w.heap.size w w':=by
 rcases hv with ⟨_,_,h0⟩ | ⟨bb,ob,cap,rfl,h1,h2,h3⟩
 · omega
 · exact AJ bb ob cap bs hbs w h1 h3
set_option maxRecDepth 20000 in
set_option maxHeartbeats 2000000 in
theorem zO (L M:Nat→Int) (hL:∀ j,j<16→-1073741824≤L j∧L j≤1073741824) (hM:∀ j,j<16→-1073741824≤M j∧M j≤1073741824) (w:World) :
 Calls Tryz.prog 123 #[bZ L,bZ M] w fun e w'=>e = .returned (bZ (aq (fun j=>L j+M j)))∧Below w.heap.size w w':=by
 have hz:=dC
 have hcar:∀ W,Calls Tryz.prog 178 #[.agg (af 16 (fun j=>L j+M j)).toArray] W fun e w'=>e = .returned (.agg (af 16 (aq (fun j=>L j+M j))).toArray)∧Below W.heap.size W w':=fun W=>dK (fun j=>L j+M j) (fun j hj=>by have:=hL j hj;have:=hM j hj;omega) W
 obtain ⟨W,hW⟩:∃ W,W=((w.alloc (.cells (af 16 L).toArray 92)).alloc (.cells (af 16 M).toArray 92)).alloc (.cells zI 92):=⟨_,rfl⟩
 have HW:=Hid.mk' hW
 have hWs:W.heap.size=w.heap.size+1+1+1:=by rw [hW];simp
 have hbW:Below w.heap.size w W:=by rw [hW];exact (((Below.refl _ _).alloc (JW _) _).alloc (by simp) _).alloc (by simp;omega) _
 have hA:ap W w.heap.size 16 L:=by rw [hW];exact ((ap.box w 16 L _).below ((Below.refl _ _).alloc (JW _) _) (by simp)).below ((Below.refl _ _).alloc (JW _) _) (by simp;omega)
 have hB:ap W (w.heap.size+1) 16 M:=by
  have h1:=ap.box (w.alloc (.cells (af 16 L).toArray 92)) 16 M 92;rw [World.size_alloc] at h1;rw [hW];exact h1.below ((Below.refl _ _).alloc (JW _) _) (by simp)
 have hC:ap W (w.heap.size+1+1) 16 (fun _=>0):=by
  have:=ap.fresh ((w.alloc (.cells (af 16 L).toArray 92)).alloc (.cells (af 16 M).toArray 92)) zI 92 (n:=16) (L:=fun _=>0) (fun j hj=>dS j hj);rw [World.size_alloc,World.size_alloc] at this;rw [hW];exact this
 unfold bZ;clear hW;go_enter Tryz.func123,Tryz.ntmps123;go_wp2;rw [←HW.out];go_loopw [5] (fun i wr=>∃ k:Nat,k≤16∧i = .int .i64 k∧ap wr w.heap.size 16 (fun j=>if j<k then L j+M j else L j)∧ap wr (w.heap.size+1) 16 M∧ap wr (w.heap.size+1+1) 16 (fun _=>0)∧Below w.heap.size w wr∧w.heap.size+1+1<wr.heap.size) (fun i _=>16 - (intOf i).toNat)
 case atStart=>exact ⟨0,Nat.zero_le _,rfl,hA.congr (fun j _=>by simp),hB,hC,hbW,by omega⟩
 case round =>
  clear hA hB hC hbW hz;obtain ⟨k,hk,rfl,hA,hB,hC,hb,hsz⟩:=hrel
  by_cases hlt:k<16
  · obtain ⟨ra,fa⟩:=hA k hlt
    obtain ⟨rb,fb⟩:=hB k hlt
    have ra0:wr.cell? ⟨w.heap.size,k,none⟩=some (.int .i64 (L k)):=by simpa using ra
    have b0:=hL k hlt;have b1:=hM k hlt;clear ra hcar;go_wp2;go_region;go_wp2;go_roundw
    case rel =>
     refine ⟨k+1,by omega,by go_num,?_,(hB.far (by show w.heap.size≠w.heap.size+1;omega) _).drew,(hC.far (by show w.heap.size≠w.heap.size+1+1;omega) _).drew,(hb.setCell (JW _) _).drew,by simpa using hsz⟩;have h1:=(hA.set (i:=k) hlt (L k+M k)).drew;refine h1.congr (fun j hj => ?_);unfold ef
     by_cases e1:j=k
     · rw [if_pos e1,if_pos (by omega),e1]
     · rw [if_neg e1]
       show (if j<k then L j+M j else L j)=_
       by_cases e2:j<k
       · rw [if_pos e2,if_pos (by omega)]
       · rw [if_neg e2,if_neg (by omega)]
    case measure=>simp [intOf];omega
  · have hke:k=16:=by omega
    subst hke;have hA2:ap wr w.heap.size 16 (fun j=>L j+M j):=hA.congr (fun j hj=>by rw [if_pos hj])
    obtain ⟨X,hX⟩:∃ X,X=fun j=>L j+M j:=⟨_,rfl⟩
    obtain ⟨Y,hY⟩:∃ Y,Y=aq X:=⟨_,rfl⟩
    have HY:=Hid.mk' (show aq (fun j=>L j+M j)=Y by rw [hY,hX]);have hcr:=hcar wr;rw [←hX] at hA2 hcr;rw [←hY] at hcr;clear hX hY hcar hA hL hM;have hi1:=a8 X;have hj1:=a8 Y;have hi2:=bH Y;have ho:=eM Y
    go_wp2_with (first
     | (refine J3 rfl 92 _ rfl w.heap.size 0 rfl (af 16 X) _ hA2.range Tryz.underlying92 rfl hi1 ?_)
     | (go_at_call 178;refine hcr.mono ?_;clear hcr;rintro e w1 ⟨rfl,hb1⟩;(have hC1:=hC.below hb1 hsz);(have hth:w1.there (w.heap.size+1+1) 0 (af 16 Y).toArray.size:=by rw [an];exact hC1.there);(have hbw1:Below w.heap.size w w1:=hb.trans (hb1.mono hb.size)))
     | (refine J2 rfl 92 _ _ rfl (w.heap.size+1+1) 0 (af 16 Y).toArray rfl rfl hth hi2 ho ?_))
    (try simp only [Exit.inBlock,Exit.then]);refine bodyPost_ret (ai Tryz.results123 _ _ (w.heap.size+1+1) 0 (af 16 Y) _ rfl (World.rangeAt_setCells_same _ _ _ _ (by rw [bl];exact hC1.there)) Tryz.underlying92 rfl hj1) rfl ⟨by rw [HY.out],?_⟩;exact ac (by omega) _ _ _ hbw1
set_option maxRecDepth 20000 in
set_option maxHeartbeats 2000000 in
theorem nN (L M:Nat→Int) (hL:∀ j,j<16→-1073741824≤L j∧L j≤1073741824) (hM:∀ j,j<16→-1073741824≤M j∧M j≤1073741824) (w:World) :
 Calls Tryz.prog 122 #[bZ L,bZ M] w fun e w'=>e = .returned (bZ (aq (fun j=>L j - M j)))∧Below w.heap.size w w':=by
 have hz:=dC
 have hcar:∀ W,Calls Tryz.prog 178 #[.agg (af 16 (fun j=>L j - M j)).toArray] W fun e w'=>e = .returned (.agg (af 16 (aq (fun j=>L j - M j))).toArray)∧Below W.heap.size W w':=fun W=>dK (fun j=>L j - M j) (fun j hj=>by have:=hL j hj;have:=hM j hj;omega) W
 obtain ⟨W,hW⟩:∃ W,W=((w.alloc (.cells (af 16 L).toArray 92)).alloc (.cells (af 16 M).toArray 92)).alloc (.cells zI 92):=⟨_,rfl⟩
 have HW:=Hid.mk' hW
 have hWs:W.heap.size=w.heap.size+1+1+1:=by rw [hW];simp
 have hbW:Below w.heap.size w W:=by rw [hW];exact (((Below.refl _ _).alloc (JW _) _).alloc (by simp) _).alloc (by simp;omega) _
 have hA:ap W w.heap.size 16 L:=by rw [hW];exact ((ap.box w 16 L _).below ((Below.refl _ _).alloc (JW _) _) (by simp)).below ((Below.refl _ _).alloc (JW _) _) (by simp;omega)
 have hB:ap W (w.heap.size+1) 16 M:=by
  have h1:=ap.box (w.alloc (.cells (af 16 L).toArray 92)) 16 M 92;rw [World.size_alloc] at h1;rw [hW];exact h1.below ((Below.refl _ _).alloc (JW _) _) (by simp)
 have hC:ap W (w.heap.size+1+1) 16 (fun _=>0):=by
  have:=ap.fresh ((w.alloc (.cells (af 16 L).toArray 92)).alloc (.cells (af 16 M).toArray 92)) zI 92 (n:=16) (L:=fun _=>0) (fun j hj=>dS j hj);rw [World.size_alloc,World.size_alloc] at this;rw [hW];exact this
 unfold bZ;clear hW;go_enter Tryz.func122,Tryz.ntmps122;go_wp2;rw [←HW.out];go_loopw [5] (fun i wr=>∃ k:Nat,k≤16∧i = .int .i64 k∧ap wr w.heap.size 16 (fun j=>if j<k then L j - M j else L j)∧ap wr (w.heap.size+1) 16 M∧ap wr (w.heap.size+1+1) 16 (fun _=>0)∧Below w.heap.size w wr∧w.heap.size+1+1<wr.heap.size) (fun i _=>16 - (intOf i).toNat)
 case atStart=>exact ⟨0,Nat.zero_le _,rfl,hA.congr (fun j _=>by simp),hB,hC,hbW,by omega⟩
 case round =>
  clear hA hB hC hbW hz;obtain ⟨k,hk,rfl,hA,hB,hC,hb,hsz⟩:=hrel
  by_cases hlt:k<16
  · obtain ⟨ra,fa⟩:=hA k hlt
    obtain ⟨rb,fb⟩:=hB k hlt
    have ra0:wr.cell? ⟨w.heap.size,k,none⟩=some (.int .i64 (L k)):=by simpa using ra
    have b0:=hL k hlt;have b1:=hM k hlt;clear ra hcar;go_wp2;go_region;go_wp2;go_roundw
    case rel =>
     refine ⟨k+1,by omega,by go_num,?_,(hB.far (by show w.heap.size≠w.heap.size+1;omega) _).drew,(hC.far (by show w.heap.size≠w.heap.size+1+1;omega) _).drew,(hb.setCell (JW _) _).drew,by simpa using hsz⟩;have h1:=(hA.set (i:=k) hlt (L k - M k)).drew;refine h1.congr (fun j hj => ?_);unfold ef
     by_cases e1:j=k
     · rw [if_pos e1,if_pos (by omega),e1]
     · rw [if_neg e1]
       show (if j<k then L j - M j else L j)=_
       by_cases e2:j<k
       · rw [if_pos e2,if_pos (by omega)]
       · rw [if_neg e2,if_neg (by omega)]
    case measure=>simp [intOf];omega
  · have hke:k=16:=by omega
    subst hke;have hA2:ap wr w.heap.size 16 (fun j=>L j - M j):=hA.congr (fun j hj=>by rw [if_pos hj])
    obtain ⟨X,hX⟩:∃ X,X=fun j=>L j - M j:=⟨_,rfl⟩
    obtain ⟨Y,hY⟩:∃ Y,Y=aq X:=⟨_,rfl⟩
    have HY:=Hid.mk' (show aq (fun j=>L j - M j)=Y by rw [hY,hX]);have hcr:=hcar wr;rw [←hX] at hA2 hcr;rw [←hY] at hcr;clear hX hY hcar hA hL hM;have hi1:=a8 X;have hj1:=a8 Y;have hi2:=bH Y;have ho:=eM Y
    go_wp2_with (first
     | (refine J3 rfl 92 _ rfl w.heap.size 0 rfl (af 16 X) _ hA2.range Tryz.underlying92 rfl hi1 ?_)
     | (go_at_call 178;refine hcr.mono ?_;clear hcr;rintro e w1 ⟨rfl,hb1⟩;(have hC1:=hC.below hb1 hsz);(have hth:w1.there (w.heap.size+1+1) 0 (af 16 Y).toArray.size:=by rw [an];exact hC1.there);(have hbw1:Below w.heap.size w w1:=hb.trans (hb1.mono hb.size)))
     | (refine J2 rfl 92 _ _ rfl (w.heap.size+1+1) 0 (af 16 Y).toArray rfl rfl hth hi2 ho ?_))
    (try simp only [Exit.inBlock,Exit.then]);refine bodyPost_ret (ai Tryz.results122 _ _ (w.heap.size+1+1) 0 (af 16 Y) _ rfl (World.rangeAt_setCells_same _ _ _ _ (by rw [bl];exact hC1.there)) Tryz.underlying92 rfl hj1) rfl ⟨by rw [HY.out],?_⟩;exact ac (by omega) _ _ _ hbw1
def pl (i:Nat):Int:=if i=0 then 65517 else if i=15 then 32767 else 65535
def bw (X:Nat→Int):Nat→Int
 | 0=>0
 | i+1=>if X i - pl i - bw X i<0 then 1 else 0
theorem Ja (X:Nat→Int):∀ i,0≤bw X i∧bw X i≤1
 | 0=>⟨Int.le_refl _,(by decide:(0:Int)≤1)⟩
 | i+1=>by rw [bw];split <;> decide
def rS (X:Nat→Int) (i:Nat):Int:=X i - pl i - bw X i
theorem I3 (i:Nat):0≤pl i∧pl i≤65535:=by unfold pl;split <;> (try split) <;> decide
theorem Ds {X:Nat→Int} (h:AV X) {i:Nat} (hi:i<16):-65536≤rS X i∧rS X i≤65535:=by
 have h1:=h i hi;have h2:=I3 i;have h3:=Ja X i;unfold rS;omega
def lF (X:Nat→Int) (i:Nat):Nat→Int:=fun j=>if j+1<i then rS X j+65536*bw X (j+1) else if j+1=i then rS X j else X j
theorem Bz {X:Nat→Int} (h:AV X) {j:Nat} (hj:j<16):0≤rS X j+65536*bw X (j+1)∧rS X j+65536*bw X (j+1)≤65535:=by
 have h1:=Ds h hj;rw [bw];show 0≤rS X j+65536*(if rS X j<0 then 1 else 0)∧rS X j+65536*(if rS X j<0 then 1 else 0)≤65535
 split <;> omega
theorem y8 (X:Nat→Int):∀ n,aQ (fun j=>rS X j+65536*bw X (j+1)) n=aQ X n - aQ pl n+bw X n*65536 ^ n
 | 0=>by simp [aQ,bw]
 | n+1=>by
  rw [aQ,y8 X n,aQ,aQ]
  have e:(rS X n+65536*bw X (n+1))*65536 ^ n=X n*65536 ^ n - pl n*65536 ^ n - bw X n*65536 ^ n+bw X (n+1)*65536 ^ (n+1):=by
   unfold rS;rw [Int.add_mul,Int.sub_mul,Int.sub_mul,Int.pow_succ,Int.mul_comm 65536,Int.mul_assoc,Int.mul_comm 65536]
  omega
theorem Ii:aQ pl 16=(pF:Int):=by decide
theorem EE (X:Nat→Int):aQ (lF X 16) 16=aQ X 16 - (pF:Int):=by
 have h1:aQ (lF X 16) 16=aQ (lF X 16) 15+rS X 15*65536 ^ 15:=rfl;have h2:aQ (lF X 16) 15=aQ (fun j=>rS X j+65536*bw X (j+1)) 15:=fQ 15 (fun j hj=>by unfold lF;rw [if_pos (by omega)]);have h3:=y8 X 15;have h4:aQ X 16=aQ X 15+X 15*65536 ^ 15:=rfl;have h5:aQ pl 16=aQ pl 15+pl 15*65536 ^ 15:=rfl
 have e:rS X 15*65536 ^ 15=X 15*65536 ^ 15 - pl 15*65536 ^ 15 - bw X 15*65536 ^ 15:=by unfold rS;rw [Int.sub_mul,Int.sub_mul]
 rw [←Ii];omega
theorem rU {X:Nat→Int}:∀ n,(∀ j,j<n→0≤X j∧X j≤65535)→0≤aQ X n∧aQ X n<65536 ^ n
 | 0,_=>by simp [aQ]
 | n+1,h=>by
  have h1:=rU n (fun j hj=>h j (by omega));have h2:=h n (by omega);rw [aQ,Int.pow_succ];have hp:(0:Int)<65536 ^ n:=Int.pow_pos (by decide);have h3:0≤X n*65536 ^ n:=Int.mul_nonneg h2.1 (Int.le_of_lt hp);have h4:X n*65536 ^ n≤65535*65536 ^ n:=Int.mul_le_mul_of_nonneg_right h2.2 (Int.le_of_lt hp);omega
def ni (X:Nat→Int):Nat→Int:=if 0≤rS X 15 then lF X 16 else X
theorem tx {X:Nat→Int} (h:AV X):AV (ni X):=by
 unfold ni
 split
 · intro j hj
   unfold lF
   by_cases e:j+1<16
   · rw [if_pos e];exact Bz h hj
   · have hj15:j=15:=by omega
     subst hj15;rw [if_neg (by decide),if_pos rfl];have:=Ds h (i:=15) (by decide);omega
 · exact h
theorem yZ {X:Nat→Int} (h:AV X):aQ (ni X) 16=if (pF:Int)≤aQ X 16 then aQ X 16 - pF else aQ X 16:=by
 have hv:=EE X;have h1:aQ (lF X 16) 16=aQ (lF X 16) 15+rS X 15*65536 ^ 15:=rfl;have h2:=rU (X:=lF X 16) 15 (fun j hj=>by unfold lF;rw [if_pos (by omega)];exact Bz h (by omega))
 have hp:(0:Int)<65536 ^ 15:=by decide
 unfold ni
 by_cases hr:0≤rS X 15
 · have h3:0≤rS X 15*65536 ^ 15:=Int.mul_nonneg hr (Int.le_of_lt hp)
   rw [if_pos hr,if_pos (by omega),hv]
 · have h3:rS X 15*65536 ^ 15≤-1*65536 ^ 15:=Int.mul_le_mul_of_nonneg_right (by omega) (Int.le_of_lt hp)
   rw [if_neg hr,if_neg (by omega)]
def n6 (L:Nat→Int):Nat→Int:=ni (ni (aq (aq (aq L))))
theorem ul (L:Nat→Int) (h:tI 9007199254740992 L):AV (aq (aq (aq L)))∧AV (n6 L)∧aQ (n6 L) 16=aQ L 16%(pF:Int):=by
 obtain ⟨h1,h2⟩:=fM L h;have h3:=lL _ h1 h2;have h4:AV (aq (aq (aq L))):=lL _ ⟨⟨by have:=h3 0 (by decide);omega,by have:=h3 0 (by decide);omega⟩,fun j _ hj=>h3 j hj⟩ (by have:=h3 0 (by decide);omega);have v1:=bI L;have v2:=bI (aq L);have v3:=bI (aq (aq L));obtain ⟨b1,b2⟩:=rU 16 h4;have s1:=tx h4;have s2:=tx s1;have e1:=yZ h4;have e2:=yZ s1
 have hmod:aQ L 16%(pF:Int)=aQ (aq (aq (aq L))) 16%(pF:Int):=by
  rw [v3,v2,v1]
  rw [show ∀ a b c d P:Int,a - b*2*P - c*2*P - d*2*P=a+P*(-(b*2) - c*2 - d*2) from fun a b c d P=>by
   rw [Int.mul_sub,Int.mul_sub,Int.mul_neg,Int.mul_comm P,Int.mul_comm P,Int.mul_comm P];omega,Int.add_mul_emod_self_left]
 refine ⟨h4,s2,?_⟩;rw [hmod];unfold n6;rw [e2,e1];generalize aQ (aq (aq (aq L))) 16=V at *;clear e1 e2 v1 v2 v3 hmod
 have hB:(65536:Int) ^ 16=115792089237316195423570985008687907853269984665640564039457584007913129639936:=by decide
 rw [hB] at b2;have hP:(pF:Int)=57896044618658097711785492504343953926634992332820282019728792003956564819949:=rfl;rw [hP]
 by_cases c1:(57896044618658097711785492504343953926634992332820282019728792003956564819949:Int)≤V
 · rw [if_pos c1]
   by_cases c2:(57896044618658097711785492504343953926634992332820282019728792003956564819949:Int)≤V - 57896044618658097711785492504343953926634992332820282019728792003956564819949
   · rw [if_pos c2];omega
   · rw [if_neg c2];omega
 · rw [if_neg c1,if_neg c1];omega
def ix (X:Nat→Int) (j:Nat):Nat:=if j%2=0 then (X (j / 2)%256).toNat else (X (j / 2) / 256).toNat
theorem D7 {X:Nat→Int} (h:AV X) (j:Nat) (hj:j<32):ix X j<256:=by
 have:=h (j / 2) (by omega);unfold ix
 split <;> omega
theorem xH {X:Nat→Int} (h:AV X) (j:Nat) (hj:j<16):dw (ix X) j=X j:=by
 have:=h j hj;unfold dw ix;rw [show 2*j%2=0 by omega,show 2*j / 2=j by omega,show (2*j+1)%2=1 by omega,show (2*j+1) / 2=j by omega,if_pos rfl,if_neg (by decide)];omega
end Go.Proofs.YtibdhadbflfdpaaGreatDoor
