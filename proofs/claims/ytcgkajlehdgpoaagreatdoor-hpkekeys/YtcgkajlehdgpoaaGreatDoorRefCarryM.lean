/- What the proof stands on: RefCarry, RefSmall, RefFrom, RefSub, RefBytes, RefTimes, RefTimes2, RefApi, RefOne. -/
import Derived.Test.YtcgkajlehdgpoaaGreatDoorHRefHmacM
namespace Go.Proofs.YtcgkajlehdgpoaaGreatDoor
open Go.RowKit
def zI:Array Value:=Array.replicate 16 (.int .i64 0)
theorem zI_at (j:Nat) (h:j<16):zI[j]? = some (.int .i64 0):=by simp [zI,h]
theorem zeroR (w:World):Sem.run Tryz.prog (zeroValue 114) w = .ok (.agg zI) w:=by kernel_rfl
theorem infoR:(Tryz.prog.info? 114).map (·.size)=some 16:=by kernel_rfl
theorem infoRL (L:Nat→Int):(Tryz.prog.info? 114).map (·.size)=some (intsI 16 L).length:=by rw [intsI_len];exact infoR
theorem infoRA (L:Nat→Int):(Tryz.prog.info? 114).map (·.size)=some (intsI 16 L).toArray.size:=by rw [intsI_size];exact infoR
theorem oneR (L:Nat→Int):(intsI 16 L).toArray.all (·.oneCell')=true:=all_oneCell_toArray (intsI_one 16 L)
theorem stC_zero (L:Nat→Int) (j:Nat):(if 0=16 then carryL L else stC L 0) j=L j:=by
 rw [if_neg (by decide)]
 unfold stC
 rw [if_neg (Nat.not_lt_zero j)]
 by_cases e:j=0
 · rw [if_pos e,e];show L 0+0=L 0;omega
 · rw [if_neg e]
set_option maxRecDepth 20000 in
set_option maxHeartbeats 2000000 in
theorem carry_any (L:Nat→Int) (hL:∀ j,j<16→-4611686018427387904≤L j∧L j≤4611686018427387904) (w:World) :
 Calls Tryz.prog 108 #[refV L] w fun e w'=>e = .returned (refV (carryL L))∧Below w.heap.size w w':=by
 have hz:=zeroR
 have hcb:=cr_bd2 L 4611686018427387904 (by decide) hL
 obtain ⟨W,hW⟩:∃ W,W=(w.alloc (.cells (intsI 16 L).toArray 114)).alloc (.cells zI 114):=⟨_,rfl⟩
 have HW:=Hid.mk' hW
 have hWs:W.heap.size=w.heap.size+1+1:=by rw [hW];simp
 have hbW:Below w.heap.size w W:=by rw [hW];exact ((Below.refl _ _).alloc (Nat.le_refl _) _).alloc (by simp) _
 have hrow0:IRow W w.heap.size 16 L:=by rw [hW];exact (IRow.box w 16 L _).below ((Below.refl _ _).alloc (Nat.le_refl _) _) (by simp)
 have hres:IRow W (w.heap.size+1) 16 (fun _=>0):=by
  have:=IRow.fresh (w.alloc (.cells (intsI 16 L).toArray 114)) zI 114 (n:=16) (L:=fun _=>0) (fun j hj=>zI_at j hj)
  rw [World.size_alloc] at this
  rw [hW];exact this
 unfold refV
 clear hW
 go_enter Tryz.func108,Tryz.ntmps108
 go_wp2
 rw [←HW.out]
 go_loopw [3] (fun i wr=>∃ k:Nat,k≤16∧i = .int .i64 k∧IRow wr w.heap.size 16 (if k=16 then carryL L else stC L k)∧IRow wr (w.heap.size+1) 16 (fun _=>0)∧Below w.heap.size w wr) (fun i _=>16 - (intOf i).toNat)
 case atStart=>exact ⟨0,Nat.zero_le _,rfl,hrow0.congr (fun j _=>(stC_zero L j).symm),hres,hbW⟩
 case round =>
  clear hrow0 hres hbW hz
  obtain ⟨k,hk,rfl,hrow,hre,hb⟩:=hrel
  by_cases hlt:k<16
  · rw [if_neg (by omega)] at hrow
    obtain ⟨rk,fk⟩:=hrow k hlt
    have ek:stC L k k=L k+cr L k:=by simp [stC]
    rw [ek] at rk
    have hc1:=hcb k (by omega)
    have hc2:=hcb (k+1) (by omega)
    have hl1:=hL k hlt
    have ec:(L k+cr L k) / 65536=cr L (k+1):=rfl
    have hab:-4611826755915743233≤L k+cr L k∧L k+cr L k≤4611826755915743233:=by omega
    have hcb2:-140737488355329≤cr L (k+1)∧cr L (k+1)≤140737488355329:=by omega
    by_cases h15:k<15
    · obtain ⟨rn,fn⟩:=hrow (k+1) (by omega)
      have en:stC L k (k+1)=L (k+1):=by unfold stC;rw [if_neg (by omega),if_neg (by omega)]
      rw [en] at rn
      have hl2:=hL (k+1) (by omega)
      clear hcb hL hc1 hc2 ek en
      go_wp2
      go_roundw
      case rel =>
       refine ⟨k+1,by omega,by go_num,?_,(hre.far (by show w.heap.size≠w.heap.size+1;omega) _).far (by show w.heap.size≠w.heap.size+1;omega) _,(hb.setCell (Nat.le_refl _) _).setCell (Nat.le_refl _) _⟩
       have h1:=(hrow.set (i:=k) hlt (L k+cr L k - cr L (k+1)*65536)).set (i:=k+1) (by omega) (L (k+1)+cr L (k+1))
       refine h1.congr (fun j hj => ?_)
       rw [if_neg (by omega)]
       unfold updI stC
       by_cases e1:j=k+1
       · subst e1;rw [if_pos rfl,if_neg (by omega),if_pos rfl]
       · rw [if_neg e1]
         by_cases e2:j=k
         · subst e2
           rw [if_pos rfl,if_pos (by omega)]
           rw [←ec];omega
         · rw [if_neg e2]
           by_cases e3:j<k
           · rw [if_pos e3,if_pos (by omega)]
           · rw [if_neg e3,if_neg e2,if_neg (by omega),if_neg e1]
      case measure=>simp [intOf];omega
    · have hke:k=15:=by omega
      subst hke
      obtain ⟨rn,fn⟩:=hrow 0 (by decide)
      have en:stC L 15 0=L 0%65536:=by unfold stC;rw [if_pos (by decide)];show (L 0+0)%65536=_;rw [Int.add_zero]
      rw [en] at rn
      clear hcb hL hc1 hc2 ek en
      have hm0:0≤L 0%65536∧L 0%65536<65536:=by omega
      have hcb3:-140737488355329≤cr L 16∧cr L 16≤140737488355329:=hcb2
      have ec3:(L 15+cr L 15) / 65536=cr L 16:=rfl
      clear hcb2 ec
      go_wp2
      go_roundw
      case rel =>
       refine ⟨16,by omega,by go_num,?_,(hre.far (by show w.heap.size≠w.heap.size+1;omega) _).far (by show w.heap.size≠w.heap.size+1;omega) _,(hb.setCell (Nat.le_refl _) _).setCell (Nat.le_refl _) _⟩
       have h1:=(hrow.set (i:=15) (by decide) (L 15+cr L 15 - cr L 16*65536)).set (i:=0) (by decide) (L 0%65536+38*cr L 16)
       refine h1.congr (fun j hj => ?_)
       rw [if_pos rfl]
       unfold updI stC carryL
       by_cases e1:j=0
       · rw [if_pos e1,if_pos e1]
       · rw [if_neg e1,if_neg e1]
         by_cases e2:j=15
         · subst e2
           rw [if_pos rfl]
           show L 15+cr L 15 - (L 15+cr L 15) / 65536*65536=_
           omega
         · rw [if_neg e2,if_pos (by omega)]
      case measure=>simp [intOf]
  · have hke:k=16:=by omega
    subst hke
    rw [if_pos rfl] at hrow
    obtain ⟨X,hX⟩:∃ X,X=carryL L:=⟨_,rfl⟩
    rw [←hX] at hrow
    have HX:=Hid.mk' hX
    clear hX hcb hL
    have hi1:=infoRL X
    have hi2:=infoRA X
    have ho:=oneR X
    have hth:wr.there (w.heap.size+1) 0 (intsI 16 X).toArray.size:=by rw [intsI_size];exact hre.there
    go_wp2_with (first
     | (refine wpList_load_mid rfl 114 _ rfl w.heap.size 0 rfl (intsI 16 X) _ hrow.range Tryz.underlying114 rfl hi1 ?_)
     | (refine wpList_store_mid rfl 114 _ _ rfl (w.heap.size+1) 0 (intsI 16 X).toArray rfl rfl hth hi2 ho ?_))
    (try simp only [Exit.inBlock,Exit.then])
    refine bodyPost_ret (results_cell_mid Tryz.results108 _ _ (w.heap.size+1) 0 (intsI 16 X) _ rfl (World.rangeAt_setCells_same _ _ _ _ (by rw [intsI_len];exact hre.there)) Tryz.underlying114 rfl hi1) rfl ⟨by rw [HX.out],?_⟩
    exact below_setCells (by omega) _ _ _ hb
end Go.Proofs.YtcgkajlehdgpoaaGreatDoor
namespace Go.Proofs.YtcgkajlehdgpoaaGreatDoor
open Go.RowKit
def smL (x:Int):Nat→Int:=fun j=>if j<3 then x / 65536 ^ j%65536 else if j=3 then x / 65536 ^ 3 else 0
def smK (x:Int) (k:Nat):Nat→Int:=fun j=>if j<k then x / 65536 ^ j%65536 else 0
theorem smL_val (x:Int):valR (smL x) 16=x:=by
 have e:∀ j,4≤j→smL x j=0:=fun j h=>by unfold smL;rw [if_neg (by omega),if_neg (by omega)]
 simp only [valR]
 rw [e 4 (by decide),e 5 (by decide),e 6 (by decide),e 7 (by decide),e 8 (by decide),e 9 (by decide),e 10 (by decide),e 11 (by decide),e 12 (by decide),e 13 (by decide),e 14 (by decide),e 15 (by decide)]
 simp only [smL]
 simp
 omega
theorem and_mask (x:Int):bits .and .i64 x 65535=x%65536:=by
 show IntKind.i64.wrap ((BitVec.ofInt 64 x &&& BitVec.ofInt 64 65535).toNat:Int)=_
 rw [BitVec.toNat_and,BitVec.toNat_ofInt,show (BitVec.ofInt 64 65535).toNat=65535 by decide,Nat.and_two_pow_sub_one_eq_mod _ 16,IntKind.wrap_i64]
 have:((2:Nat) ^ 64:Int)=18446744073709551616:=by decide
 omega
set_option maxRecDepth 20000 in
set_option maxHeartbeats 2000000 in
theorem rsmall_any (x:Int) (h1:-9223372036854775808≤x) (h2:x≤9223372036854775807) (w:World) :
 Calls Tryz.prog 81 #[.int .i64 x] w fun e w'=>e = .returned (refV (carryL (smL x)))∧Below w.heap.size w w':=by
 have hz:=zeroR
 have hcar:=fun W=>carry_any (smL x) (fun j _=>by
  unfold smL
  split
  · omega
  · split
    · have:(65536:Int) ^ 3=281474976710656:=by decide
      rw [this];omega
    · decide) W
 obtain ⟨W,hW⟩:∃ W,W=(w.alloc (.cells zI 114)).alloc (.cells zI 114):=⟨_,rfl⟩
 have HW:=Hid.mk' hW
 have hWs:W.heap.size=w.heap.size+1+1:=by rw [hW];simp
 have hbW:Below w.heap.size w W:=by rw [hW];exact ((Below.refl _ _).alloc (Nat.le_refl _) _).alloc (by simp) _
 have hres:IRow W w.heap.size 16 (fun _=>0):=by rw [hW];exact (IRow.fresh w zI _ (fun j hj=>zI_at j hj)).below ((Below.refl _ _).alloc (Nat.le_refl _) _) (by simp)
 have hrow0:IRow W (w.heap.size+1) 16 (smK x 0):=by
  have:=IRow.fresh (w.alloc (.cells zI 114)) zI 114 (n:=16) (L:=fun _=>0) (fun j hj=>zI_at j hj)
  rw [World.size_alloc] at this
  rw [hW];exact this.congr (fun j _=>by unfold smK;rw [if_neg (by omega)])
 obtain ⟨X,hX⟩:∃ X,X=carryL (smL x):=⟨_,rfl⟩
 rw [←hX] at hcar ⊢
 unfold refV at hcar ⊢
 clear hW hX
 go_enter Tryz.func81,Tryz.ntmps81
 go_wp2
 rw [←HW.out]
 go_loopw [0,4] (fun y i wr=>∃ k:Nat,k≤3∧y = .int .i64 (x / 65536 ^ k)∧i = .int .i64 k∧IRow wr (w.heap.size+1) 16 (smK x k)∧IRow wr w.heap.size 16 (fun _=>0)∧Below w.heap.size w wr∧w.heap.size+1<wr.heap.size) (fun _ i _=>3 - (intOf i).toNat)
 case atStart=>exact ⟨0,Nat.zero_le _,by simp,rfl,hrow0,hres,hbW,by omega⟩
 case round =>
  clear hrow0 hres hbW hz
  obtain ⟨k,hk,rfl,rfl,hrow,hre,hb,hs⟩:=hrel
  by_cases hlt:k<3
  · obtain ⟨rk,fk⟩:=hrow k (by omega)
    obtain ⟨y,hy⟩:∃ y,y=x / 65536 ^ k:=⟨_,rfl⟩
    have hyd:y / 65536=x / 65536 ^ (k+1):=by rw [hy,Int.pow_succ,Int.ediv_ediv_of_nonneg (by exact Int.le_of_lt (Int.pow_pos (by decide)))]
    have hset:=(hrow.set (i:=k) (by omega) (y%65536)).congr (M:=smK x (k+1)) (fun j hj=>by
     unfold updI smK
     by_cases e:j=k
     · rw [if_pos e,if_pos (by omega),e,hy]
     · rw [if_neg e]
       by_cases e2:j<k
       · rw [if_pos e2,if_pos (by omega)]
       · rw [if_neg e2,if_neg (by omega)])
    have hma:=and_mask y
    have hyb:-9223372036854775808≤y∧y≤9223372036854775807:=by
     have h3:k=0∨k=1∨k=2:=by omega
     rcases h3 with rfl | rfl | rfl <;> simp at hy <;> omega
    rw [←hy]
    have HS:=Hid.mk' hset
    have HD:=Hid.mk' hyd
    clear hcar hset hyd hy
    go_wp2
    go_roundw
    case rel=>exact ⟨k+1,by omega,by rw [HD.out],by go_num,HS.out,hre.far (by show w.heap.size+1≠w.heap.size;omega) _,hb.setCell (by show _≤w.heap.size+1;omega) _,by simpa using hs⟩
    case measure=>simp [intOf];omega
  · have hke:k=3:=by omega
    subst hke
    obtain ⟨rk,fk⟩:=hrow 3 (by decide)
    obtain ⟨y,hy⟩:∃ y,y=x / 65536 ^ 3:=⟨_,rfl⟩
    rw [←hy]
    have hst:IRow (wr.setCell ⟨w.heap.size+1,3,none⟩ (.int .i64 y)) (w.heap.size+1) 16 (smL x):=(hrow.set (i:=3) (by decide) y).congr (fun j hj=>by
     unfold updI smK smL
     by_cases e:j=3
     · rw [if_pos e,if_neg (by omega),if_pos e,hy]
     · rw [if_neg e]
       by_cases e2:j<3
       · rw [if_pos e2,if_pos e2]
       · rw [if_neg e2,if_neg e2,if_neg e])
    have hre2:IRow (wr.setCell ⟨w.heap.size+1,3,none⟩ (.int .i64 y)) w.heap.size 16 (fun _=>0):=hre.far (by show w.heap.size+1≠w.heap.size;omega) _
    have hb2:Below w.heap.size w (wr.setCell ⟨w.heap.size+1,3,none⟩ (.int .i64 y)):=hb.setCell (by show _≤w.heap.size+1;omega) _
    have hs2:w.heap.size+1<(wr.setCell ⟨w.heap.size+1,3,none⟩ (.int .i64 y)).heap.size:=by simpa using hs
    obtain ⟨V,hV⟩:∃ V,V=wr.setCell ⟨w.heap.size+1,3,none⟩ (.int .i64 y):=⟨_,rfl⟩
    have HV:=Hid.mk' hV
    rw [←hV] at hst hre2 hb2 hs2
    have hcr:=hcar V
    have hi1:=infoRL (smL x)
    have hj1:=infoRL X
    have hi2:=infoRA X
    have ho:=oneR X
    have hstr:=hst.range
    clear hV hcar hrow hre hb hy
    go_wp2_with (first
     | (rw [←HV.out];refine wpList_load_mid rfl 114 _ rfl (w.heap.size+1) 0 rfl (intsI 16 (smL x)) _ hstr Tryz.underlying114 rfl hi1 ?_)
     | (go_at_call 108;refine hcr.mono ?_;clear hcr;rintro e w1 ⟨rfl,hb1⟩;(have hC1:=hre2.below hb1 (by omega));(have hth:w1.there w.heap.size 0 (intsI 16 X).toArray.size:=by rw [intsI_size];exact hC1.there);(have hbw1:Below w.heap.size w w1:=hb2.trans (hb1.mono hb2.size)))
     | (refine wpList_store_mid rfl 114 _ _ rfl w.heap.size 0 (intsI 16 X).toArray rfl rfl hth hi2 ho ?_))
    (try simp only [Exit.inBlock,Exit.then])
    refine bodyPost_ret (results_cell_mid Tryz.results81 _ _ w.heap.size 0 (intsI 16 X) _ rfl (World.rangeAt_setCells_same _ _ _ _ (by rw [intsI_len];exact hC1.there)) Tryz.underlying114 rfl hj1) rfl ⟨rfl,?_⟩
    exact below_setCells (Nat.le_refl _) _ _ _ hbw1
end Go.Proofs.YtcgkajlehdgpoaaGreatDoor
namespace Go.Proofs.YtcgkajlehdgpoaaGreatDoor
open Go.RowKit
def fromL (bs:Nat→Nat):Nat→Int:=fun j=>(bs (2*j):Int)+(bs (2*j+1):Int)*256
theorem valR_from (bs:Nat→Nat):∀ n,valR (fromL bs) n=((ofB bs (2*n):Nat):Int)
 | 0=>rfl
 | n+1=>by
  rw [valR,valR_from bs n,show 2*(n+1)=2*n+1+1 by omega,ofB,ofB]
  unfold fromL
  have e1:(65536:Int) ^ n=((256 ^ (2*n):Nat):Int):=by
   rw [Nat.pow_mul,show (256:Nat) ^ 2=65536 from rfl];simp
  rw [e1,Nat.pow_succ]
  generalize 256 ^ (2*n)=P
  rw [Int.natCast_add,Int.natCast_add,Int.natCast_mul,Int.natCast_mul,Int.natCast_mul,Int.add_mul,Int.mul_comm (bs (2*n):Int),Int.mul_assoc (P:Int),Int.mul_comm ((bs (2*n+1):Int)*256) (P:Int),Int.mul_comm (bs (2*n+1):Int) 256,←Int.add_assoc]
  rfl
theorem fromL_dig (bs:Nat→Nat) (hb:∀ j,bs j<256) (j:Nat):0≤fromL bs j∧fromL bs j≤65535:=by
 have h1:=hb (2*j)
 have h2:=hb (2*j+1)
 unfold fromL;omega
set_option maxRecDepth 20000 in
set_option maxHeartbeats 2000000 in
theorem rfrom_any (bb ob c:Nat) (bs:Nat→Nat) (hbs:∀ j,bs j<256) (w:World) (hbl:bb<w.heap.size) (hc:∀ j,j<32→w.cell? ⟨bb,ob+j,none⟩=some (.int .u8 (bs j))) :
 Calls Tryz.prog 80 #[.slice (some ⟨bb,ob,none⟩) 32 c] w fun e w'=>e = .returned (refV (fromL bs))∧Below w.heap.size w w':=by
 have hz:=zeroR
 obtain ⟨W,hW⟩:∃ W,W=(w.alloc (.cells zI 114)).alloc (.cells zI 114):=⟨_,rfl⟩
 have HW:=Hid.mk' hW
 have hWs:W.heap.size=w.heap.size+1+1:=by rw [hW];simp
 have hbW:Below w.heap.size w W:=by rw [hW];exact ((Below.refl _ _).alloc (Nat.le_refl _) _).alloc (by simp) _
 have hres:IRow W w.heap.size 16 (fun _=>0):=by rw [hW];exact (IRow.fresh w zI _ (fun j hj=>zI_at j hj)).below ((Below.refl _ _).alloc (Nat.le_refl _) _) (by simp)
 have hrow0:IRow W (w.heap.size+1) 16 (fun _=>0):=by
  have:=IRow.fresh (w.alloc (.cells zI 114)) zI 114 (n:=16) (L:=fun _=>0) (fun j hj=>zI_at j hj)
  rw [World.size_alloc] at this
  rw [hW];exact this
 unfold refV
 clear hW
 go_enter Tryz.func80,Tryz.ntmps80
 go_wp2
 rw [←HW.out]
 go_loopw [4] (fun i wr=>∃ k:Nat,k≤16∧i = .int .i64 k∧IRow wr (w.heap.size+1) 16 (fun j=>if j<k then fromL bs j else 0)∧IRow wr w.heap.size 16 (fun _=>0)∧Below w.heap.size w wr) (fun i _=>16 - (intOf i).toNat)
 case atStart=>exact ⟨0,Nat.zero_le _,rfl,hrow0.congr (fun j _=>by simp),hres,hbW⟩
 case round =>
  clear hrow0 hres hbW hz
  obtain ⟨k,hk,rfl,hrow,hre,hb⟩:=hrel
  by_cases hlt:k<16
  · obtain ⟨rk,fk⟩:=hrow k hlt
    have rk0:wr.cell? ⟨w.heap.size+1,k,none⟩=some (.int .i64 0):=by simpa using rk
    have d0:wr.cell? ⟨bb,ob+2*k,none⟩=some (.int .u8 (bs (2*k))):=(hb.cell (p:=⟨bb,ob+2*k,none⟩) hbl).trans (hc (2*k) (by omega))
    have d1:wr.cell? ⟨bb,ob+(2*k+1),none⟩=some (.int .u8 (bs (2*k+1))):=(hb.cell (p:=⟨bb,ob+(2*k+1),none⟩) hbl).trans (hc (2*k+1) (by omega))
    have b0:=hbs (2*k)
    have b1:=hbs (2*k+1)
    have q1:(2*(k:Int)).toNat=2*k:=by omega
    have q2:(2*(k:Int)+1).toNat=2*k+1:=by omega
    have q3:(0:Int)≤2*(k:Int)∧2*(k:Int)<32:=by omega
    have q4:(0:Int)≤2*(k:Int)+1∧2*(k:Int)+1<32:=by omega
    clear rk
    go_wp2
    go_region
    go_wp2
    go_roundw
    case rel =>
     refine ⟨k+1,by omega,by go_num,?_,(hre.far (by show w.heap.size+1≠w.heap.size;omega) _).drew,(hb.setCell (by show w.heap.size≤w.heap.size+1;omega) _).drew⟩
     have h1:=(hrow.set (i:=k) hlt ((bs (2*k):Int)+(bs (2*k+1):Int)*256)).drew
     refine h1.congr (fun j hj => ?_)
     unfold updI
     by_cases e1:j=k
     · rw [if_pos e1,if_pos (by omega),e1];rfl
     · rw [if_neg e1]
       show (if j<k then fromL bs j else 0)=_
       by_cases e2:j<k
       · rw [if_pos e2,if_pos (by omega)]
       · rw [if_neg e2,if_neg (by omega)]
    case measure=>simp [intOf];omega
  · have hke:k=16:=by omega
    subst hke
    have hrow2:IRow wr (w.heap.size+1) 16 (fromL bs):=hrow.congr (fun j hj=>by rw [if_pos hj])
    have hi1:=infoRL (fromL bs)
    have hi2:=infoRA (fromL bs)
    have ho:=oneR (fromL bs)
    have hth:wr.there w.heap.size 0 (intsI 16 (fromL bs)).toArray.size:=by rw [intsI_size];exact hre.there
    go_wp2_with (first
     | (refine wpList_load_mid rfl 114 _ rfl (w.heap.size+1) 0 rfl (intsI 16 (fromL bs)) _ hrow2.range Tryz.underlying114 rfl hi1 ?_)
     | (refine wpList_store_mid rfl 114 _ _ rfl w.heap.size 0 (intsI 16 (fromL bs)).toArray rfl rfl hth hi2 ho ?_))
    (try simp only [Exit.inBlock,Exit.then])
    refine bodyPost_ret (results_cell_mid Tryz.results80 _ _ w.heap.size 0 (intsI 16 (fromL bs)) _ rfl (World.rangeAt_setCells_same _ _ _ _ (by rw [intsI_len];exact hre.there)) Tryz.underlying114 rfl hi1) rfl ⟨rfl,?_⟩
    exact below_setCells (Nat.le_refl _) _ _ _ hb
theorem rfrom (v:Value) (bs:Nat→Nat) (hbs:∀ j,bs j<256) (w:World) (hv:BytesIn w v 32 bs):Calls Tryz.prog 80 #[v] w fun e w'=>e = .returned (refV (fromL bs))∧Below w.heap.size w w':=by
 rcases hv with ⟨_,_,h0⟩ | ⟨bb,ob,cap,rfl,h1,h2,h3⟩
 · omega
 · exact rfrom_any bb ob cap bs hbs w h1 h3
set_option maxRecDepth 20000 in
set_option maxHeartbeats 2000000 in
theorem rplus_any (L M:Nat→Int) (hL:∀ j,j<16→-1073741824≤L j∧L j≤1073741824) (hM:∀ j,j<16→-1073741824≤M j∧M j≤1073741824) (w:World) :
 Calls Tryz.prog 109 #[refV L,refV M] w fun e w'=>e = .returned (refV (carryL (fun j=>L j+M j)))∧Below w.heap.size w w':=by
 have hz:=zeroR
 have hcar:∀ W,Calls Tryz.prog 108 #[.agg (intsI 16 (fun j=>L j+M j)).toArray] W fun e w'=>e = .returned (.agg (intsI 16 (carryL (fun j=>L j+M j))).toArray)∧Below W.heap.size W w':=fun W=>carry_any (fun j=>L j+M j) (fun j hj=>by have:=hL j hj;have:=hM j hj;omega) W
 obtain ⟨W,hW⟩:∃ W,W=((w.alloc (.cells (intsI 16 L).toArray 114)).alloc (.cells (intsI 16 M).toArray 114)).alloc (.cells zI 114):=⟨_,rfl⟩
 have HW:=Hid.mk' hW
 have hWs:W.heap.size=w.heap.size+1+1+1:=by rw [hW];simp
 have hbW:Below w.heap.size w W:=by rw [hW];exact (((Below.refl _ _).alloc (Nat.le_refl _) _).alloc (by simp) _).alloc (by simp;omega) _
 have hA:IRow W w.heap.size 16 L:=by rw [hW];exact ((IRow.box w 16 L _).below ((Below.refl _ _).alloc (Nat.le_refl _) _) (by simp)).below ((Below.refl _ _).alloc (Nat.le_refl _) _) (by simp;omega)
 have hB:IRow W (w.heap.size+1) 16 M:=by
  have h1:=IRow.box (w.alloc (.cells (intsI 16 L).toArray 114)) 16 M 114
  rw [World.size_alloc] at h1
  rw [hW];exact h1.below ((Below.refl _ _).alloc (Nat.le_refl _) _) (by simp)
 have hC:IRow W (w.heap.size+1+1) 16 (fun _=>0):=by
  have:=IRow.fresh ((w.alloc (.cells (intsI 16 L).toArray 114)).alloc (.cells (intsI 16 M).toArray 114)) zI 114 (n:=16) (L:=fun _=>0) (fun j hj=>zI_at j hj)
  rw [World.size_alloc,World.size_alloc] at this
  rw [hW];exact this
 unfold refV
 clear hW
 go_enter Tryz.func109,Tryz.ntmps109
 go_wp2
 rw [←HW.out]
 go_loopw [5] (fun i wr=>∃ k:Nat,k≤16∧i = .int .i64 k∧IRow wr w.heap.size 16 (fun j=>if j<k then L j+M j else L j)∧IRow wr (w.heap.size+1) 16 M∧IRow wr (w.heap.size+1+1) 16 (fun _=>0)∧Below w.heap.size w wr∧w.heap.size+1+1<wr.heap.size) (fun i _=>16 - (intOf i).toNat)
 case atStart=>exact ⟨0,Nat.zero_le _,rfl,hA.congr (fun j _=>by simp),hB,hC,hbW,by omega⟩
 case round =>
  clear hA hB hC hbW hz
  obtain ⟨k,hk,rfl,hA,hB,hC,hb,hsz⟩:=hrel
  by_cases hlt:k<16
  · obtain ⟨ra,fa⟩:=hA k hlt
    obtain ⟨rb,fb⟩:=hB k hlt
    have ra0:wr.cell? ⟨w.heap.size,k,none⟩=some (.int .i64 (L k)):=by simpa using ra
    have b0:=hL k hlt
    have b1:=hM k hlt
    clear ra hcar
    go_wp2
    go_region
    go_wp2
    go_roundw
    case rel =>
     refine ⟨k+1,by omega,by go_num,?_,(hB.far (by show w.heap.size≠w.heap.size+1;omega) _).drew,(hC.far (by show w.heap.size≠w.heap.size+1+1;omega) _).drew,(hb.setCell (Nat.le_refl _) _).drew,by simpa using hsz⟩
     have h1:=(hA.set (i:=k) hlt (L k+M k)).drew
     refine h1.congr (fun j hj => ?_)
     unfold updI
     by_cases e1:j=k
     · rw [if_pos e1,if_pos (by omega),e1]
     · rw [if_neg e1]
       show (if j<k then L j+M j else L j)=_
       by_cases e2:j<k
       · rw [if_pos e2,if_pos (by omega)]
       · rw [if_neg e2,if_neg (by omega)]
    case measure=>simp [intOf];omega
  · have hke:k=16:=by omega
    subst hke
    have hA2:IRow wr w.heap.size 16 (fun j=>L j+M j):=hA.congr (fun j hj=>by rw [if_pos hj])
    obtain ⟨X,hX⟩:∃ X,X=fun j=>L j+M j:=⟨_,rfl⟩
    obtain ⟨Y,hY⟩:∃ Y,Y=carryL X:=⟨_,rfl⟩
    have HY:=Hid.mk' (show carryL (fun j=>L j+M j)=Y by rw [hY,hX])
    have hcr:=hcar wr
    rw [←hX] at hA2 hcr
    rw [←hY] at hcr
    clear hX hY hcar hA hL hM
    have hi1:=infoRL X
    have hj1:=infoRL Y
    have hi2:=infoRA Y
    have ho:=oneR Y
    go_wp2_with (first
     | (refine wpList_load_mid rfl 114 _ rfl w.heap.size 0 rfl (intsI 16 X) _ hA2.range Tryz.underlying114 rfl hi1 ?_)
     | (go_at_call 108;refine hcr.mono ?_;clear hcr;rintro e w1 ⟨rfl,hb1⟩;(have hC1:=hC.below hb1 hsz);(have hth:w1.there (w.heap.size+1+1) 0 (intsI 16 Y).toArray.size:=by rw [intsI_size];exact hC1.there);(have hbw1:Below w.heap.size w w1:=hb.trans (hb1.mono hb.size)))
     | (refine wpList_store_mid rfl 114 _ _ rfl (w.heap.size+1+1) 0 (intsI 16 Y).toArray rfl rfl hth hi2 ho ?_))
    (try simp only [Exit.inBlock,Exit.then])
    refine bodyPost_ret (results_cell_mid Tryz.results109 _ _ (w.heap.size+1+1) 0 (intsI 16 Y) _ rfl (World.rangeAt_setCells_same _ _ _ _ (by rw [intsI_len];exact hC1.there)) Tryz.underlying114 rfl hj1) rfl ⟨by rw [HY.out],?_⟩
    exact below_setCells (by omega) _ _ _ hbw1
set_option maxRecDepth 20000 in
set_option maxHeartbeats 2000000 in
theorem rminus_any (L M:Nat→Int) (hL:∀ j,j<16→-1073741824≤L j∧L j≤1073741824) (hM:∀ j,j<16→-1073741824≤M j∧M j≤1073741824) (w:World) :
 Calls Tryz.prog 110 #[refV L,refV M] w fun e w'=>e = .returned (refV (carryL (fun j=>L j - M j)))∧Below w.heap.size w w':=by
 have hz:=zeroR
 have hcar:∀ W,Calls Tryz.prog 108 #[.agg (intsI 16 (fun j=>L j - M j)).toArray] W fun e w'=>e = .returned (.agg (intsI 16 (carryL (fun j=>L j - M j))).toArray)∧Below W.heap.size W w':=fun W=>carry_any (fun j=>L j - M j) (fun j hj=>by have:=hL j hj;have:=hM j hj;omega) W
 obtain ⟨W,hW⟩:∃ W,W=((w.alloc (.cells (intsI 16 L).toArray 114)).alloc (.cells (intsI 16 M).toArray 114)).alloc (.cells zI 114):=⟨_,rfl⟩
 have HW:=Hid.mk' hW
 have hWs:W.heap.size=w.heap.size+1+1+1:=by rw [hW];simp
 have hbW:Below w.heap.size w W:=by rw [hW];exact (((Below.refl _ _).alloc (Nat.le_refl _) _).alloc (by simp) _).alloc (by simp;omega) _
 have hA:IRow W w.heap.size 16 L:=by rw [hW];exact ((IRow.box w 16 L _).below ((Below.refl _ _).alloc (Nat.le_refl _) _) (by simp)).below ((Below.refl _ _).alloc (Nat.le_refl _) _) (by simp;omega)
 have hB:IRow W (w.heap.size+1) 16 M:=by
  have h1:=IRow.box (w.alloc (.cells (intsI 16 L).toArray 114)) 16 M 114
  rw [World.size_alloc] at h1
  rw [hW];exact h1.below ((Below.refl _ _).alloc (Nat.le_refl _) _) (by simp)
 have hC:IRow W (w.heap.size+1+1) 16 (fun _=>0):=by
  have:=IRow.fresh ((w.alloc (.cells (intsI 16 L).toArray 114)).alloc (.cells (intsI 16 M).toArray 114)) zI 114 (n:=16) (L:=fun _=>0) (fun j hj=>zI_at j hj)
  rw [World.size_alloc,World.size_alloc] at this
  rw [hW];exact this
 unfold refV
 clear hW
 go_enter Tryz.func110,Tryz.ntmps110
 go_wp2
 rw [←HW.out]
 go_loopw [5] (fun i wr=>∃ k:Nat,k≤16∧i = .int .i64 k∧IRow wr w.heap.size 16 (fun j=>if j<k then L j - M j else L j)∧IRow wr (w.heap.size+1) 16 M∧IRow wr (w.heap.size+1+1) 16 (fun _=>0)∧Below w.heap.size w wr∧w.heap.size+1+1<wr.heap.size) (fun i _=>16 - (intOf i).toNat)
 case atStart=>exact ⟨0,Nat.zero_le _,rfl,hA.congr (fun j _=>by simp),hB,hC,hbW,by omega⟩
 case round =>
  clear hA hB hC hbW hz
  obtain ⟨k,hk,rfl,hA,hB,hC,hb,hsz⟩:=hrel
  by_cases hlt:k<16
  · obtain ⟨ra,fa⟩:=hA k hlt
    obtain ⟨rb,fb⟩:=hB k hlt
    have ra0:wr.cell? ⟨w.heap.size,k,none⟩=some (.int .i64 (L k)):=by simpa using ra
    have b0:=hL k hlt
    have b1:=hM k hlt
    clear ra hcar
    go_wp2
    go_region
    go_wp2
    go_roundw
    case rel =>
     refine ⟨k+1,by omega,by go_num,?_,(hB.far (by show w.heap.size≠w.heap.size+1;omega) _).drew,(hC.far (by show w.heap.size≠w.heap.size+1+1;omega) _).drew,(hb.setCell (Nat.le_refl _) _).drew,by simpa using hsz⟩
     have h1:=(hA.set (i:=k) hlt (L k - M k)).drew
     refine h1.congr (fun j hj => ?_)
     unfold updI
     by_cases e1:j=k
     · rw [if_pos e1,if_pos (by omega),e1]
     · rw [if_neg e1]
       show (if j<k then L j - M j else L j)=_
       by_cases e2:j<k
       · rw [if_pos e2,if_pos (by omega)]
       · rw [if_neg e2,if_neg (by omega)]
    case measure=>simp [intOf];omega
  · have hke:k=16:=by omega
    subst hke
    have hA2:IRow wr w.heap.size 16 (fun j=>L j - M j):=hA.congr (fun j hj=>by rw [if_pos hj])
    obtain ⟨X,hX⟩:∃ X,X=fun j=>L j - M j:=⟨_,rfl⟩
    obtain ⟨Y,hY⟩:∃ Y,Y=carryL X:=⟨_,rfl⟩
    have HY:=Hid.mk' (show carryL (fun j=>L j - M j)=Y by rw [hY,hX])
    have hcr:=hcar wr
    rw [←hX] at hA2 hcr
    rw [←hY] at hcr
    clear hX hY hcar hA hL hM
    have hi1:=infoRL X
    have hj1:=infoRL Y
    have hi2:=infoRA Y
    have ho:=oneR Y
    go_wp2_with (first
     | (refine wpList_load_mid rfl 114 _ rfl w.heap.size 0 rfl (intsI 16 X) _ hA2.range Tryz.underlying114 rfl hi1 ?_)
     | (go_at_call 108;refine hcr.mono ?_;clear hcr;rintro e w1 ⟨rfl,hb1⟩;(have hC1:=hC.below hb1 hsz);(have hth:w1.there (w.heap.size+1+1) 0 (intsI 16 Y).toArray.size:=by rw [intsI_size];exact hC1.there);(have hbw1:Below w.heap.size w w1:=hb.trans (hb1.mono hb.size)))
     | (refine wpList_store_mid rfl 114 _ _ rfl (w.heap.size+1+1) 0 (intsI 16 Y).toArray rfl rfl hth hi2 ho ?_))
    (try simp only [Exit.inBlock,Exit.then])
    refine bodyPost_ret (results_cell_mid Tryz.results110 _ _ (w.heap.size+1+1) 0 (intsI 16 Y) _ rfl (World.rangeAt_setCells_same _ _ _ _ (by rw [intsI_len];exact hC1.there)) Tryz.underlying114 rfl hj1) rfl ⟨by rw [HY.out],?_⟩
    exact below_setCells (by omega) _ _ _ hbw1
end Go.Proofs.YtcgkajlehdgpoaaGreatDoor
namespace Go.Proofs.YtcgkajlehdgpoaaGreatDoor
open Go.RowKit
def pl (i:Nat):Int:=if i=0 then 65517 else if i=15 then 32767 else 65535
def bw (X:Nat→Int):Nat→Int
 | 0=>0
 | i+1=>if X i - pl i - bw X i<0 then 1 else 0
theorem bw_bd (X:Nat→Int):∀ i,0≤bw X i∧bw X i≤1
 | 0=>⟨Int.le_refl _,(by decide:(0:Int)≤1)⟩
 | i+1=>by rw [bw];split <;> decide
def rS (X:Nat→Int) (i:Nat):Int:=X i - pl i - bw X i
theorem pl_bd (i:Nat):0≤pl i∧pl i≤65535:=by unfold pl;split <;> (try split) <;> decide
theorem rS_bd {X:Nat→Int} (h:Nrm X) {i:Nat} (hi:i<16):-65536≤rS X i∧rS X i≤65535:=by
 have h1:=h i hi
 have h2:=pl_bd i
 have h3:=bw_bd X i
 unfold rS;omega
def stS (X:Nat→Int) (i:Nat):Nat→Int:=fun j=>if j+1<i then rS X j+65536*bw X (j+1) else if j+1=i then rS X j else X j
theorem dig_bd {X:Nat→Int} (h:Nrm X) {j:Nat} (hj:j<16):0≤rS X j+65536*bw X (j+1)∧rS X j+65536*bw X (j+1)≤65535:=by
 have h1:=rS_bd h hj
 rw [bw]
 show 0≤rS X j+65536*(if rS X j<0 then 1 else 0)∧rS X j+65536*(if rS X j<0 then 1 else 0)≤65535
 split <;> omega
theorem val_stS (X:Nat→Int):∀ n,valR (fun j=>rS X j+65536*bw X (j+1)) n=valR X n - valR pl n+bw X n*65536 ^ n
 | 0=>by simp [valR,bw]
 | n+1=>by
  rw [valR,val_stS X n,valR,valR]
  have e:(rS X n+65536*bw X (n+1))*65536 ^ n=X n*65536 ^ n - pl n*65536 ^ n - bw X n*65536 ^ n+bw X (n+1)*65536 ^ (n+1):=by
   unfold rS
   rw [Int.add_mul,Int.sub_mul,Int.sub_mul,Int.pow_succ,Int.mul_comm 65536,Int.mul_assoc,Int.mul_comm 65536]
  omega
theorem val_pl:valR pl 16=(pF:Int):=by decide
theorem val_sub (X:Nat→Int):valR (stS X 16) 16=valR X 16 - (pF:Int):=by
 have h1:valR (stS X 16) 16=valR (stS X 16) 15+rS X 15*65536 ^ 15:=rfl
 have h2:valR (stS X 16) 15=valR (fun j=>rS X j+65536*bw X (j+1)) 15:=valR_congr 15 (fun j hj=>by unfold stS;rw [if_pos (by omega)])
 have h3:=val_stS X 15
 have h4:valR X 16=valR X 15+X 15*65536 ^ 15:=rfl
 have h5:valR pl 16=valR pl 15+pl 15*65536 ^ 15:=rfl
 have e:rS X 15*65536 ^ 15=X 15*65536 ^ 15 - pl 15*65536 ^ 15 - bw X 15*65536 ^ 15:=by unfold rS;rw [Int.sub_mul,Int.sub_mul]
 rw [←val_pl]
 omega
theorem val_nrm {X:Nat→Int}:∀ n,(∀ j,j<n→0≤X j∧X j≤65535)→0≤valR X n∧valR X n<65536 ^ n
 | 0,_=>by simp [valR]
 | n+1,h=>by
  have h1:=val_nrm n (fun j hj=>h j (by omega))
  have h2:=h n (by omega)
  rw [valR,Int.pow_succ]
  have hp:(0:Int)<65536 ^ n:=Int.pow_pos (by decide)
  have h3:0≤X n*65536 ^ n:=Int.mul_nonneg h2.1 (Int.le_of_lt hp)
  have h4:X n*65536 ^ n≤65535*65536 ^ n:=Int.mul_le_mul_of_nonneg_right h2.2 (Int.le_of_lt hp)
  omega
def subL (X:Nat→Int):Nat→Int:=if 0≤rS X 15 then stS X 16 else X
theorem sub_nrm {X:Nat→Int} (h:Nrm X):Nrm (subL X):=by
 unfold subL
 split
 · intro j hj
   unfold stS
   by_cases e:j+1<16
   · rw [if_pos e];exact dig_bd h hj
   · have hj15:j=15:=by omega
     subst hj15
     rw [if_neg (by decide),if_pos rfl]
     have:=rS_bd h (i:=15) (by decide)
     omega
 · exact h
theorem sub_val {X:Nat→Int} (h:Nrm X):valR (subL X) 16=if (pF:Int)≤valR X 16 then valR X 16 - pF else valR X 16:=by
 have hv:=val_sub X
 have h1:valR (stS X 16) 16=valR (stS X 16) 15+rS X 15*65536 ^ 15:=rfl
 have h2:=val_nrm (X:=stS X 16) 15 (fun j hj=>by unfold stS;rw [if_pos (by omega)];exact dig_bd h (by omega))
 have hp:(0:Int)<65536 ^ 15:=by decide
 unfold subL
 by_cases hr:0≤rS X 15
 · have h3:0≤rS X 15*65536 ^ 15:=Int.mul_nonneg hr (Int.le_of_lt hp)
   rw [if_pos hr,if_pos (by omega),hv]
 · have h3:rS X 15*65536 ^ 15≤-1*65536 ^ 15:=Int.mul_le_mul_of_nonneg_right (by omega) (Int.le_of_lt hp)
   rw [if_neg hr,if_neg (by omega)]
def canL (L:Nat→Int):Nat→Int:=subL (subL (carryL (carryL (carryL L))))
theorem canL_nrm (L:Nat→Int) (h:Dig 9007199254740992 L):Nrm (carryL (carryL (carryL L)))∧Nrm (canL L)∧valR (canL L) 16=valR L 16%(pF:Int):=by
 obtain ⟨h1,h2⟩:=carry_fine L h
 have h3:=carry_nrm _ h1 h2
 have h4:Nrm (carryL (carryL (carryL L))):=carry_nrm _ ⟨⟨by have:=h3 0 (by decide);omega,by have:=h3 0 (by decide);omega⟩,fun j _ hj=>h3 j hj⟩ (by have:=h3 0 (by decide);omega)
 have v1:=valR_carry L
 have v2:=valR_carry (carryL L)
 have v3:=valR_carry (carryL (carryL L))
 obtain ⟨b1,b2⟩:=val_nrm 16 h4
 have s1:=sub_nrm h4
 have s2:=sub_nrm s1
 have e1:=sub_val h4
 have e2:=sub_val s1
 have hmod:valR L 16%(pF:Int)=valR (carryL (carryL (carryL L))) 16%(pF:Int):=by
  rw [v3,v2,v1]
  rw [show ∀ a b c d P:Int,a - b*2*P - c*2*P - d*2*P=a+P*(-(b*2) - c*2 - d*2) from fun a b c d P=>by
   rw [Int.mul_sub,Int.mul_sub,Int.mul_neg,Int.mul_comm P,Int.mul_comm P,Int.mul_comm P];omega,Int.add_mul_emod_self_left]
 refine ⟨h4,s2,?_⟩
 rw [hmod]
 unfold canL
 rw [e2,e1]
 generalize valR (carryL (carryL (carryL L))) 16=V at *
 clear e1 e2 v1 v2 v3 hmod
 have hB:(65536:Int) ^ 16=115792089237316195423570985008687907853269984665640564039457584007913129639936:=by decide
 rw [hB] at b2
 have hP:(pF:Int)=57896044618658097711785492504343953926634992332820282019728792003956564819949:=rfl
 rw [hP]
 by_cases c1:(57896044618658097711785492504343953926634992332820282019728792003956564819949:Int)≤V
 · rw [if_pos c1]
   by_cases c2:(57896044618658097711785492504343953926634992332820282019728792003956564819949:Int)≤V - 57896044618658097711785492504343953926634992332820282019728792003956564819949
   · rw [if_pos c2];omega
   · rw [if_neg c2];omega
 · rw [if_neg c1,if_neg c1];omega
def bytL (X:Nat→Int) (j:Nat):Nat:=if j%2=0 then (X (j / 2)%256).toNat else (X (j / 2) / 256).toNat
theorem bytL_lt {X:Nat→Int} (h:Nrm X) (j:Nat) (hj:j<32):bytL X j<256:=by
 have:=h (j / 2) (by omega)
 unfold bytL
 split <;> omega
theorem fromL_bytL {X:Nat→Int} (h:Nrm X) (j:Nat) (hj:j<16):fromL (bytL X) j=X j:=by
 have:=h j hj
 unfold fromL bytL
 rw [show 2*j%2=0 by omega,show 2*j / 2=j by omega,show (2*j+1)%2=1 by omega,show (2*j+1) / 2=j by omega,if_pos rfl,if_neg (by decide)]
 omega
end Go.Proofs.YtcgkajlehdgpoaaGreatDoor
namespace Go.Proofs.YtcgkajlehdgpoaaGreatDoor
open Go.RowKit
def subN (X:Nat→Int):Nat→Nat→Int
 | 0=>X
 | k+1=>subL (subN X k)
theorem subN_nrm {X:Nat→Int} (h:Nrm X):∀ k,Nrm (subN X k)
 | 0=>h
 | k+1=>sub_nrm (subN_nrm h k)
theorem src_two (w:World) (x y:Nat):Src (w.alloc (.cells #[.int .u8 x,.int .u8 y] 5)) (some ⟨w.heap.size,0,none⟩) 2 (fun j=>if j=0 then x else y):=by
 refine .inr ⟨w.heap.size,0,rfl,fun j hj => ?_⟩
 match j,hj with
 | 0,_=>simp
 | 1,_=>simp
theorem step_append_two {ops:Array Oper} {o:Oper} {a:Act} {w:World} {K:Act→World→Prop} {Q:Exit→Act→World→Prop} {E:Prop} (hgd:o.guard=none) (s x:Operand)
 (ho:o.op = .call { callee := .builtin .append,args:=#[s,x],argTypes:=#[22,22] }) (hty:o.type=22) (base:Nat)
 (v:Value) (n:Nat) (F:Nat→Nat) (y0 y1:Int) (hs:a.eval s=v) (hown:Own base w v n F) (g:Nat) (hg:w.heap.size=g) (hx:a.eval x = .slice (some ⟨g,0,none⟩) 2 2) (hF0:y0=(F n:Int)) (hF1:y1=(F (n+1):Int))
 (hl:n+2≤1000000) (hbase:base≤w.heap.size)
 (h:∀ v' w',Own base w' v' (n+2) F→Below base w w'→K (a.put o.dst v') w') :
 if Region.wanted o (yielded ops a.tmps)=true then Oper.wp Tryz.prog o a (w.alloc (.cells #[.int .u8 y0,.int .u8 y1] 5)) K Q else E:=by
 have hw:Region.wanted o (yielded ops a.tmps)=true:=by simp [Region.wanted,hgd]
 rw [if_pos hw]
 subst hg
 subst hF0
 subst hF1
 have hz:base≤(w.alloc (.cells #[.int .u8 (F n:Int),.int .u8 (F (n+1):Int)] 5)).heap.size:=by simp only [World.size_alloc];omega
 obtain ⟨v',w',hrun,h1,h2⟩:=run_append_bytes (w.alloc (.cells #[.int .u8 (F n:Int),.int .u8 (F (n+1):Int)] 5)) base v n F (hown.alloc _) _ 2 2 _ (src_two w (F n) (F (n+1))) (fun h=>by cases h) (by omega) hz
 have h3:Own base w' v' (n+2) F:=h1.congr (fun j hj=>by
  by_cases e:j<n
  · rw [cat_left e]
  · unfold cat
    rw [if_neg e]
    show (if j - n=0 then F n else F (n+1))=F j
    by_cases e2:j - n=0
    · rw [if_pos e2,show j=n by omega]
    · rw [if_neg e2,show j=n+1 by omega])
 unfold Oper.wp
 simp [execOp,ho,hty,resolve,invoke,builtin,hs,hx,hrun,Result.andThen]
 exact h v' w' h3 (((Below.refl _ _).alloc hbase _).trans h2)
set_option maxRecDepth 20000 in
set_option maxHeartbeats 4000000 in
theorem rbytes_any (L:Nat→Int) (hL:Dig 9007199254740992 L) (w:World) :
 Calls Tryz.prog 83 #[refV L] w fun e w'=>∃ v,e = .returned v∧Own w.heap.size w' v 32 (bytL (canL L))∧Below w.heap.size w w':=by
 have hz:=zeroR
 obtain ⟨hn0,hcn,-⟩:=canL_nrm L hL
 obtain ⟨d1,hd1⟩:=carry_fine L hL
 have hn1:=carry_nrm _ d1 hd1
 have c1:∀ W,Calls Tryz.prog 108 #[.agg (intsI 16 L).toArray] W fun e w'=>e = .returned (.agg (intsI 16 (carryL L)).toArray)∧Below W.heap.size W w':=fun W=>carry_any L (fun j hj=>by have:=hL.all (by decide) j hj;omega) W
 have c2:∀ W,Calls Tryz.prog 108 #[.agg (intsI 16 (carryL L)).toArray] W fun e w'=>e = .returned (.agg (intsI 16 (carryL (carryL L))).toArray)∧Below W.heap.size W w':=fun W=>carry_any (carryL L) (fun j hj=>by have:=d1.all (by decide) j hj;omega) W
 have c3:∀ W,Calls Tryz.prog 108 #[.agg (intsI 16 (carryL (carryL L))).toArray] W fun e w'=>e = .returned (.agg (intsI 16 (carryL (carryL (carryL L)))).toArray)∧Below W.heap.size W w':=fun W=>carry_any (carryL (carryL L)) (fun j hj=>by have:=hn1 j hj;omega) W
 have hcan:canL L=subN (carryL (carryL (carryL L))) 2:=rfl
 rw [hcan] at hcn ⊢
 obtain ⟨X1,hX1⟩:∃ X,X=carryL L:=⟨_,rfl⟩
 rw [←hX1] at c1 c2 c3 hn0 hcn ⊢
 obtain ⟨X2,hX2⟩:∃ X,X=carryL X1:=⟨_,rfl⟩
 rw [←hX2] at c2 c3 hn0 hcn ⊢
 obtain ⟨X,hX⟩:∃ X,X=carryL X2:=⟨_,rfl⟩
 rw [←hX] at c3 hn0 hcn ⊢
 obtain ⟨W,hW⟩:∃ W,W=w.alloc (.cells (intsI 16 L).toArray 114):=⟨_,rfl⟩
 have HW:=Hid.mk' hW
 have hWs:W.heap.size=w.heap.size+1:=by rw [hW];simp
 have hbW:Below w.heap.size w W:=by rw [hW];exact (Below.refl _ _).alloc (Nat.le_refl _) _
 have hA:IRow W w.heap.size 16 L:=by rw [hW];exact IRow.box w 16 L _
 have hi0:=infoRL L
 have hi2:=infoRA X
 have ho:=oneR X
 have c1':=c1 W
 unfold refV
 clear hW hX1 hX2 hX hL d1 hd1 hn1 c1 hcan
 go_enter Tryz.func83,Tryz.ntmps83
 go_wp2_with (first
  | (rw [←HW.out];refine wpList_load_mid rfl 114 _ rfl w.heap.size 0 rfl (intsI 16 L) _ hA.range Tryz.underlying114 rfl hi0 ?_)
  | (go_at_call 108;refine c1'.mono ?_;clear c1';rintro e w1 ⟨rfl,hb1⟩)
  | (go_at_call 108;refine (c2 _).mono ?_;clear c2;rintro e w2 ⟨rfl,hb2⟩)
  | (go_at_call 108;refine (c3 _).mono ?_;clear c3;rintro e w3 ⟨rfl,hb3⟩;(have hb13:Below W.heap.size W w3:=hb1.trans ((hb2.mono hb1.size).trans (hb3.mono (Nat.le_trans hb1.size hb2.size))));(have hA3:=hA.below hb13 (by omega));(have hth:w3.there w.heap.size 0 (intsI 16 X).toArray.size:=by rw [intsI_size];exact hA3.there);(have hbw3:Below w.heap.size w w3:=hbW.trans (hb13.mono hbW.size));(have hw3s:=hb13.size);clear hb1 hb2 hb3 hb13)
  | (refine wpList_store_mid rfl 114 _ _ rfl w.heap.size 0 (intsI 16 X).toArray rfl rfl hth hi2 ho ?_))
 have hA4:IRow (w3.setCells w.heap.size 0 (intsI 16 X).toArray.toList) w.heap.size 16 X:=by rw [List.toList_toArray];exact hA3.stored
 have hb4:Below w.heap.size w (w3.setCells w.heap.size 0 (intsI 16 X).toArray.toList):=below_setCells (Nat.le_refl _) _ _ _ hbw3
 have hs4:w.heap.size<(w3.setCells w.heap.size 0 (intsI 16 X).toArray.toList).heap.size:=by rw [(setCells_same _ _ _ _).2.2.2];omega
 clear hA hA3 hth hbw3 hw3s hbW HW hi0 ho hi2
 go_loopw [3] (fun i wr=>∃ k:Nat,k≤2∧i = .int .i64 k∧IRow wr w.heap.size 16 (subN X k)∧Below w.heap.size w wr∧w.heap.size<wr.heap.size) (fun i _=>2 - (intOf i).toNat)
 case atStart=>exact ⟨0,Nat.zero_le _,rfl,hA4,hb4,hs4⟩
 case round =>
  clear hA4 hb4 hs4
  obtain ⟨k,hk,rfl,hA,hb,hs⟩:=hrel
  by_cases hlt:k<2
  · have hnk:=subN_nrm hn0 k
    obtain ⟨Y,hY⟩:∃ Y,Y=subN X k:=⟨_,rfl⟩
    have HY:=Hid.mk' hY
    rw [←hY] at hA hnk
    clear hY hcn
    have hi0:=infoRL Y
    have hi2:=infoRA Y
    have ho:=oneR Y
    obtain ⟨D,hD⟩:∃ D,D=wr.heap.size:=⟨_,rfl⟩
    have HD:=Hid.mk' hD
    obtain ⟨W1,hW1⟩:∃ W1,W1=wr.alloc (.cells zI 114):=⟨_,rfl⟩
    have HW1:=Hid.mk' hW1
    have hbA:Below wr.heap.size wr W1:=by rw [hW1];exact (Below.refl _ _).alloc (Nat.le_refl _) _
    have hA1:=hA.below hbA hs
    have hD1:IRow W1 D 16 (fun _=>0):=by rw [hW1,hD];exact IRow.fresh wr zI _ (fun j hj=>zI_at j hj)
    have hb1:Below w.heap.size w W1:=hb.trans (hbA.mono hb.size)
    have hs1:D<W1.heap.size:=by rw [hW1,hD];simp
    have hwD:w.heap.size<D:=by omega
    have hth:W1.there D 0 (intsI 16 Y).toArray.size:=by rw [intsI_size];exact hD1.there
    have hD2:IRow (W1.setCells D 0 (intsI 16 Y).toArray.toList) D 16 Y:=by rw [List.toList_toArray];exact hD1.stored
    have hA2:IRow (W1.setCells D 0 (intsI 16 Y).toArray.toList) w.heap.size 16 Y:=hA1.farCells (by omega) _ _
    have hb2:Below w.heap.size w (W1.setCells D 0 (intsI 16 Y).toArray.toList):=below_setCells (by omega) _ _ _ hb1
    have hs2:D<(W1.setCells D 0 (intsI 16 Y).toArray.toList).heap.size:=by rw [(setCells_same _ _ _ _).2.2.2];exact hs1
    obtain ⟨W2,hW2⟩:∃ W2,W2=W1.setCells D 0 (intsI 16 Y).toArray.toList:=⟨_,rfl⟩
    have HW2:=Hid.mk' hW2
    rw [←hW2] at hD2 hA2 hb2 hs2
    obtain ⟨r0,f0⟩:=hD2 0 (by decide)
    have hr0:=hnk 0 (by decide)
    have hAr:=hA.range
    clear hA1 hb1 hs1 hD1 hbA hW2 hW1 hD
    go_wp2_with (first
     | (refine wpList_load_mid rfl 114 _ rfl w.heap.size 0 rfl (intsI 16 Y) _ hAr Tryz.underlying114 rfl hi0 ?_)
     | (rw [←HW1.out];rw [←HD.out];refine wpList_store_mid rfl 114 _ _ rfl D 0 (intsI 16 Y).toArray rfl rfl hth hi2 ho ?_;rw [←HW2.out]))
    have hR0:IRow (W2.setCell ⟨D,0,none⟩ (.int .i64 (Y 0 - 65517))) D 16 (stS Y 1):=(hD2.set (i:=0) (by decide) (Y 0 - 65517)).congr (fun j hj=>by
     unfold updI stS
     by_cases e:j=0
     · rw [if_pos e,if_neg (by omega),if_pos (by omega),e];show Y 0 - 65517=Y 0 - 65517 - 0;omega
     · rw [if_neg e,if_neg (by omega),if_neg (by omega)])
    have hA3:IRow (W2.setCell ⟨D,0,none⟩ (.int .i64 (Y 0 - 65517))) w.heap.size 16 Y:=hA2.far (by show D≠_;omega) _
    have hb3:Below w.heap.size w (W2.setCell ⟨D,0,none⟩ (.int .i64 (Y 0 - 65517))):=hb2.setCell (by show _≤D;omega) _
    have hs3:D<(W2.setCell ⟨D,0,none⟩ (.int .i64 (Y 0 - 65517))).heap.size:=by simpa using hs2
    clear r0 f0 hr0 hAr hth hD2 hA2 hb2 hs2
    go_loopw [5] (fun i wq=>∃ q:Nat,q≤15∧i = .int .i64 ((q:Int)+1)∧IRow wq D 16 (stS Y (q+1))∧IRow wq w.heap.size 16 Y∧Below w.heap.size w wq∧D<wq.heap.size) (fun i _=>16 - (intOf i).toNat)
    case atStart=>exact ⟨0,Nat.zero_le _,by go_num,hR0,hA3,hb3,hs3⟩
    case round =>
     clear hR0 hA3 hb3 hs3 hz hA hb hs
     obtain ⟨q,hq,rfl,hR,hA,hb,hs⟩:=hrel
     by_cases hlq:q<15
     · obtain ⟨r1,f1⟩:=hR q (by omega)
       obtain ⟨r2,f2⟩:=hR (q+1) (by omega)
       have e1:stS Y (q+1) q=rS Y q:=by unfold stS;rw [if_neg (by omega),if_pos rfl]
       have e2:stS Y (q+1) (q+1)=Y (q+1):=by unfold stS;rw [if_neg (by omega),if_neg (by omega)]
       rw [e1] at r1
       rw [e2] at r2
       have hbd1:=rS_bd hnk (i:=q) (by omega)
       have hbd2:=hnk (q+1) (by omega)
       have hbq:bw Y (q+1)=if rS Y q<0 then 1 else 0:=rfl
       have hrq:rS Y (q+1)=Y (q+1) - pl (q+1) - bw Y (q+1):=rfl
       have Hfin:∀ (v1 v2:Int),v1=rS Y q+65536*bw Y (q+1)→v2=rS Y (q+1)→∀ wq:World,IRow wq D 16 (updI (updI (stS Y (q+1)) q v1) (q+1) v2)→IRow wq D 16 (stS Y (q+1+1)):=fun v1 v2 h1 h2 wq h=>h.congr (fun j hj=>by
        unfold updI stS
        by_cases c1:j=q+1
        · rw [if_pos c1,if_neg (by omega),if_pos (by omega),c1,h2]
        · rw [if_neg c1]
          by_cases c2:j=q
          · rw [if_pos c2,if_pos (by omega),c2,h1]
          · rw [if_neg c2]
            by_cases c3:j+1<q+1
            · rw [if_pos c3,if_pos (by omega)]
            · rw [if_neg c3,if_neg (by omega),if_neg (by omega),if_neg (by omega)])
       obtain ⟨a,ha⟩:∃ a,a=rS Y q:=⟨_,rfl⟩
       obtain ⟨b,hbe⟩:∃ b,b=Y (q+1):=⟨_,rfl⟩
       rw [←ha] at r1 hbd1 hbq
       rw [←hbe] at r2 hbd2 hrq
       have Ha:=Hid.mk' ha
       have hq1:((q:Int)+1).toNat=q+1:=by omega
       have hq2:(0:Int)≤(q:Int)+1∧(q:Int)+1<16:=by omega
       clear e1 e2 ha hbe hnk
       by_cases h14:q=14
       · subst h14
         by_cases hneg:a<0
         · rw [if_pos hneg] at hbq
           have hpl:pl (14+1)=32767:=rfl
           have Hbq:=Hid.mk' hbq
           have Hrq:=Hid.mk' hrq
           have Hpl:=Hid.mk' hpl
           clear hbq hrq hpl
           go_wp2
           go_roundw
           case rel =>
            refine ⟨14+1,by omega,by go_num,Hfin (a+65536) (b - 32767 - 1) (by rw [Hbq.out,←Ha.out];omega) (by rw [Hrq.out,Hpl.out,Hbq.out]) _ ((hR.set (i:=14) (by omega) _).set (i:=14+1) (by omega) _),(hA.far (by show D≠_;omega) _).far (by show D≠_;omega) _,(hb.setCell (by show _≤D;omega) _).setCell (by show _≤D;omega) _,by simpa using hs⟩
           case measure=>simp [intOf]
         · rw [if_neg hneg] at hbq
           have hpl:pl (14+1)=32767:=rfl
           have Hbq:=Hid.mk' hbq
           have Hrq:=Hid.mk' hrq
           have Hpl:=Hid.mk' hpl
           clear hbq hrq hpl
           go_wp2
           go_roundw
           case rel =>
            refine ⟨14+1,by omega,by go_num,Hfin a (b - 32767) (by rw [Hbq.out,←Ha.out];omega) (by rw [Hrq.out,Hpl.out,Hbq.out];omega) _ ((hR.set (i:=14+1) (by omega) _).congr (fun j hj => ?_)),hA.far (by show D≠_;omega) _,hb.setCell (by show _≤D;omega) _,by simpa using hs⟩
            unfold updI
            by_cases c1:j=14+1
            · rw [if_pos c1,if_pos c1]
            · rw [if_neg c1,if_neg c1]
              by_cases c2:j=14
              · rw [if_pos c2,c2,Ha.out];unfold stS;rw [if_neg (by omega),if_pos rfl]
              · rw [if_neg c2]
           case measure=>simp [intOf]
       · by_cases hneg:a<0
         · rw [if_pos hneg] at hbq
           have hpl:pl (q+1)=65535:=by unfold pl;rw [if_neg (by omega),if_neg (by omega)]
           have Hbq:=Hid.mk' hbq
           have Hrq:=Hid.mk' hrq
           have Hpl:=Hid.mk' hpl
           clear hbq hrq hpl
           go_wp2
           go_roundw
           case rel =>
            refine ⟨q+1,by omega,by go_num,Hfin (a+65536) (b - 65535 - 1) (by rw [Hbq.out,←Ha.out];omega) (by rw [Hrq.out,Hpl.out,Hbq.out]) _ ((hR.set (i:=q) (by omega) _).set (i:=q+1) (by omega) _),(hA.far (by show D≠_;omega) _).far (by show D≠_;omega) _,(hb.setCell (by show _≤D;omega) _).setCell (by show _≤D;omega) _,by simpa using hs⟩
           case measure=>simp [intOf];omega
         · rw [if_neg hneg] at hbq
           have hpl:pl (q+1)=65535:=by unfold pl;rw [if_neg (by omega),if_neg (by omega)]
           have Hbq:=Hid.mk' hbq
           have Hrq:=Hid.mk' hrq
           have Hpl:=Hid.mk' hpl
           clear hbq hrq hpl
           go_wp2
           go_roundw
           case rel =>
            refine ⟨q+1,by omega,by go_num,Hfin a (b - 65535) (by rw [Hbq.out,←Ha.out];omega) (by rw [Hrq.out,Hpl.out,Hbq.out];omega) _ ((hR.set (i:=q+1) (by omega) _).congr (fun j hj => ?_)),hA.far (by show D≠_;omega) _,hb.setCell (by show _≤D;omega) _,by simpa using hs⟩
            unfold updI
            by_cases c1:j=q+1
            · rw [if_pos c1,if_pos c1]
            · rw [if_neg c1,if_neg c1]
              by_cases c2:j=q
              · rw [if_pos c2,c2,Ha.out];unfold stS;rw [if_neg (by omega),if_pos rfl]
              · rw [if_neg c2]
           case measure=>simp [intOf];omega
     · have hqe:q=15:=by omega
       subst hqe
       replace hR:IRow wr D 16 (stS Y 16):=hR
       obtain ⟨r1,f1⟩:=hR 15 (by decide)
       have e1:stS Y 16 15=rS Y 15:=by unfold stS;rw [if_neg (by decide),if_pos (by decide)]
       rw [e1] at r1
       obtain ⟨x,hx⟩:∃ x,x=rS Y 15:=⟨_,rfl⟩
       rw [←hx] at r1
       have Hx:=Hid.mk' hx
       have hsub:subN X (k+1)=subL Y:=by rw [HY.out];rfl
       have Hsub:=Hid.mk' hsub
       clear hsub e1 hx hnk
       by_cases hneg:0≤x
       · have hY2:subL Y=stS Y 16:=by unfold subL;rw [if_pos (by rw [←Hx.out];exact hneg)]
         have HY2:=Hid.mk' hY2
         obtain ⟨V,hV⟩:∃ V,V=stS Y 16:=⟨_,rfl⟩
         have HV:=Hid.mk' hV
         rw [←hV] at hR
         have hi0:=infoRL V
         have hi2:=infoRA V
         have ho:=oneR V
         have hth:wr.there w.heap.size 0 (intsI 16 V).toArray.size:=by rw [intsI_size];exact hA.there
         have hRr:=hR.range
         have hst:IRow (wr.setCells w.heap.size 0 (intsI 16 V).toArray.toList) w.heap.size 16 V:=by rw [List.toList_toArray];exact hA.stored
         have hbs:Below w.heap.size w (wr.setCells w.heap.size 0 (intsI 16 V).toArray.toList):=below_setCells (Nat.le_refl _) _ _ _ hb
         have hss:w.heap.size<(wr.setCells w.heap.size 0 (intsI 16 V).toArray.toList).heap.size:=by rw [(setCells_same _ _ _ _).2.2.2];omega
         obtain ⟨W9,hW9⟩:∃ W9,W9=wr.setCells w.heap.size 0 (intsI 16 V).toArray.toList:=⟨_,rfl⟩
         have HW9:=Hid.mk' hW9
         rw [←hW9] at hst hbs hss
         clear hY2 hV hW9 hR
         go_wp2_with (first
          | (refine wpList_load_mid rfl 114 _ rfl D 0 rfl (intsI 16 V) _ hRr Tryz.underlying114 rfl hi0 ?_)
          | (refine wpList_store_mid rfl 114 _ _ rfl w.heap.size 0 (intsI 16 V).toArray rfl rfl hth hi2 ho ?_;rw [←HW9.out]))
         go_roundw
         case rel =>
          refine ⟨k+1,by omega,by go_num,?_,hbs,hss⟩
          rw [Hsub.out,HY2.out,←HV.out]
          exact hst
         case measure=>simp [intOf];omega
       · have hY2:subL Y=Y:=by unfold subL;rw [if_neg (by rw [←Hx.out];exact hneg)]
         have HY2:=Hid.mk' hY2
         have hneg':x<0:=by omega
         clear hY2
         go_wp2
         go_roundw
         case rel =>
          refine ⟨k+1,by omega,by go_num,?_,hb,by omega⟩
          rw [Hsub.out,HY2.out]
          exact hA
         case measure=>simp [intOf];omega
  · have hke:k=2:=by omega
    subst hke
    clear hz
    obtain ⟨Z,hZ⟩:∃ Z,Z=subN X 2:=⟨_,rfl⟩
    have HZ:=Hid.mk' hZ
    rw [←hZ] at hA hcn
    clear hZ
    go_wp2
    go_loopw [8,9] (fun v i wq=>∃ k:Nat,k≤16∧i = .int .i64 k∧Own (w.heap.size+1) wq v (2*k) (bytL Z)∧IRow wq w.heap.size 16 Z∧Below w.heap.size w wq∧w.heap.size<wq.heap.size) (fun _ i _=>16 - (intOf i).toNat)
    case atStart=>exact ⟨0,Nat.zero_le _,rfl,Own.nil _ _ _,hA,hb,hs⟩
    case round =>
     clear hA hb hs
     obtain ⟨k,hk,rfl,own,hA,hb,hs⟩:=hrel
     by_cases hlk:k<16
     · obtain ⟨ra,fa⟩:=hA k hlk
       have hzb:=hcn k hlk
       have hS:∀ w':World,Below (w.heap.size+1) wr w'→∀ b o,b<w.heap.size+1→w'.cell? ⟨b,o,none⟩=wr.cell? ⟨b,o,none⟩:=fun w' h b o hb=>h.cell (p:=⟨b,o,none⟩) hb
       have hb0:Below (w.heap.size+1) wr wr.drew:=(Below.refl _ _).drew
       have own0:Own (w.heap.size+1) wr.drew _ (2*k) (bytL Z):=own.below (Below.refl _ _).drew
       have hs0:w.heap.size+1≤wr.drew.heap.size:=hs
       have hki:(0:Int)≤(k:Int)∧(k:Int)<16:=by omega
       have y0:IntKind.u8.wrap (Z k)=((bytL Z (2*k):Nat):Int):=by rw [IntKind.wrap_u8];unfold bytL;rw [show 2*k%2=0 by omega,show 2*k / 2=k by omega,if_pos rfl];omega
       have y1:IntKind.u8.wrap (Z k / 256)=((bytL Z (2*k+1):Nat):Int):=by rw [IntKind.wrap_u8];unfold bytL;rw [show (2*k+1)%2=1 by omega,show (2*k+1) / 2=k by omega,if_neg (by decide)];omega
       have Hy0:=Hid.mk' y0
       have Hy1:=Hid.mk' y1
       clear y0 y1
       go_wp2
       go_region_held3 (fun w'=>Below (w.heap.size+1) wr w') (first | assumption | exact Below.alloc (by assumption) (by assumption) _) (first | (refine step_append_two rfl (.tmp 67) (.tmp 79) rfl rfl (w.heap.size+1) _ (2*k) (bytL Z) _ _ rfl own0 _ rfl rfl Hy0.out Hy1.out (by omega) hs0 ?_;intro v' w' hown1 hbx;have hbn:Below (w.heap.size+1) wr w':=hb0.trans hbx))
       go_wp2
       go_roundw
       case rel =>
        have hsn:=hbn.size
        have own2:Own (w.heap.size+1) w' v' (2*(k+1)) (bytL Z):=hown1.start (by omega)
        have hA2:=hA.below hbn (by omega)
        have hb2:Below w.heap.size w w':=hb.trans (hbn.mono (by omega))
        first
         | exact ⟨k+1,by omega,by go_num,own2,hA2,hb2,by omega⟩
         | (repeat apply Exists.intro
            refine ⟨?_,rfl⟩
            exact ⟨k+1,by omega,by go_num,own2,hA2,hb2,by omega⟩)
       case measure=>simp [intOf];omega
     · have hke:k=16:=by omega
       subst hke
       go_wp2
       go_ret
       rw [←HZ.out]
       exact ⟨_,rfl,own_base own (by omega),hb⟩
end Go.Proofs.YtcgkajlehdgpoaaGreatDoor
namespace Go.Proofs.YtcgkajlehdgpoaaGreatDoor
open Go.RowKit
def tRow (L M T:Nat→Int) (i:Nat):Nat→Nat→Int
 | 0=>T
 | k+1=>updI (tRow L M T i k) (i+k) (tRow L M T i k (i+k)+L i*M k)
def tRows (L M:Nat→Int):Nat→Nat→Int
 | 0=>fun _=>0
 | i+1=>tRow L M (tRows L M i) i 16
def tP (L M:Nat→Int) (i k:Nat):Nat→Int:=tRow L M (tRows L M i) i k
theorem tP_step (L M:Nat→Int) (i k:Nat):tP L M i (k+1)=updI (tP L M i k) (i+k) (tP L M i k (i+k)+L i*M k):=rfl
theorem tP_next (L M:Nat→Int) (i:Nat):tP L M (i+1) 0=tP L M i 16:=by
 unfold tP
 rw [show tRow L M (tRows L M (i+1)) (i+1) 0=tRows L M (i+1) from rfl,tRows]
theorem tP_zero (L M:Nat→Int) (j:Nat):tP L M 0 0 j=0:=rfl
theorem tP_bd (L M:Nat→Int) (hL:∀ j,j<16→-131072≤L j∧L j≤131072) (hM:∀ j,j<16→-131072≤M j∧M j≤131072):∀ i k,i<16→k≤16→∀ j,-(17179869184*((16*i+k:Nat):Int))≤tP L M i k j∧tP L M i k j≤17179869184*((16*i+k:Nat):Int):=by
 have hp:∀ a b:Int,-131072≤a∧a≤131072→-131072≤b∧b≤131072→-17179869184≤a*b∧a*b≤17179869184:=by
  intro a b ha hb
  have h1:(a*b).natAbs≤131072*131072:=by rw [Int.natAbs_mul];exact Nat.mul_le_mul (by omega) (by omega)
  omega
 intro i
 induction i with
 | zero =>
  intro k
  induction k with
  | zero=>intro _ _ j;rw [tP_zero];omega
  | succ k ih =>
   intro h1 h2 j
   have h3:=ih h1 (by omega)
   have h4:=hp (L 0) (M k) (hL 0 (by decide)) (hM k (by omega))
   have h5:=h3 (0+k)
   have h6:=h3 j
   rw [tP_step]
   unfold updI
   split <;> omega
 | succ i ihi =>
  intro k
  induction k with
  | zero =>
   intro h1 _ j
   have:=ihi 16 (by omega) (Nat.le_refl _) j
   rw [tP_next]
   omega
  | succ k ih =>
   intro h1 h2 j
   have h3:=ih h1 (by omega)
   have h4:=hp (L (i+1)) (M k) (hL _ (by omega)) (hM k (by omega))
   have h5:=h3 (i+1+k)
   have h6:=h3 j
   rw [tP_step]
   unfold updI
   split <;> omega
theorem valR_upd (L:Nat→Int) (i:Nat) (v:Int):∀ n,i<n→valR (updI L i v) n=valR L n+(v - L i)*65536 ^ i
 | 0,h=>absurd h (Nat.not_lt_zero _)
 | n+1,h=>by
  rw [valR,valR]
  by_cases e:i=n
  · subst e
    rw [valR_congr i (L:=updI L i v) (M:=L) (fun j hj=>by unfold updI;rw [if_neg (by omega)])]
    have e1:updI L i v i=v:=by unfold updI;rw [if_pos rfl]
    rw [e1,Int.sub_mul];omega
  · rw [valR_upd L i v n (by omega)]
    have e1:updI L i v n=L n:=by unfold updI;rw [if_neg (by omega)]
    rw [e1];omega
theorem tP_val (L M:Nat→Int):∀ i k,i<16→k≤16→valR (tP L M i k) 31=valR L i*valR M 16+L i*65536 ^ i*valR M k:=by
 intro i
 induction i with
 | zero =>
  intro k
  induction k with
  | zero =>
   intro _ _
   have h0:valR (tP L M 0 0) 31=0:=by kernel_rfl
   rw [h0];simp [valR]
  | succ k ih =>
   intro h1 h2
   rw [tP_step,valR_upd _ _ _ _ (by omega),ih h1 (by omega),show ∀ a b:Int,a+b - a=b from fun a b=>by omega]
   show _=_+L 0*65536 ^ 0*(valR M k+M k*65536 ^ k)
   rw [Int.mul_add,←Int.add_assoc,Nat.zero_add,Int.pow_zero,Int.mul_one,Int.mul_assoc]
 | succ i ihi =>
  intro k
  induction k with
  | zero =>
   intro h1 _
   rw [tP_next,ihi 16 (by omega) (Nat.le_refl _)]
   simp only [valR,Int.mul_zero,Int.add_zero,Int.add_mul]
  | succ k ih =>
   intro h1 h2
   rw [tP_step,valR_upd _ _ _ _ (by omega),ih h1 (by omega),show ∀ a b:Int,a+b - a=b from fun a b=>by omega]
   show _=_+L (i+1)*65536 ^ (i+1)*(valR M k+M k*65536 ^ k)
   have e:L (i+1)*M k*65536 ^ (i+1+k)=L (i+1)*65536 ^ (i+1)*(M k*65536 ^ k):=by
    rw [Int.pow_add];ac_rfl
   rw [e,Int.mul_add,←Int.add_assoc]
theorem tP_all (L M:Nat→Int):valR (tP L M 15 16) 31=valR L 16*valR M 16:=by
 rw [tP_val L M 15 16 (by decide) (Nat.le_refl _),←Int.add_mul]
 rfl
def foldT (t:Nat→Int) (k:Nat):Nat→Int:=fun j=>if j<k then (if j<15 then t j+38*t (j+16) else t j) else 0
theorem valR_split (t:Nat→Int) (a:Nat):∀ b,valR t (a+b)=valR t a+valR (fun j=>t (j+a)) b*65536 ^ a
 | 0=>by simp [valR]
 | b+1=>by
  rw [←Nat.add_assoc,valR,valR_split t a b,valR]
  rw [Int.add_mul,Int.add_assoc,Nat.add_comm b a]
  congr 2
  rw [Int.pow_add];ac_rfl
theorem valR_lin (t u:Nat→Int) (c:Int):∀ n,valR (fun j=>t j+c*u j) n=valR t n+c*valR u n
 | 0=>by simp [valR]
 | n+1=>by
  rw [valR,valR,valR,valR_lin t u c n,Int.mul_add,Int.add_mul,Int.mul_assoc]
  omega
theorem foldT_val (t:Nat→Int):valR (foldT t 16) 16=valR t 31 - 2*(pF:Int)*valR (fun j=>t (j+16)) 15:=by
 have h1:valR (foldT t 16) 16=valR (foldT t 16) 15+t 15*65536 ^ 15:=by rw [valR];rfl
 have h2:valR (foldT t 16) 15=valR (fun j=>t j+38*t (j+16)) 15:=valR_congr 15 (fun j hj=>by unfold foldT;rw [if_pos (by omega),if_pos hj])
 have h3:=valR_lin t (fun j=>t (j+16)) 38 15
 have h4:=valR_split t 16 15
 have h5:valR t 16=valR t 15+t 15*65536 ^ 15:=rfl
 have e:(65536:Int) ^ 16=2*(pF:Int)+38:=by decide
 rw [e,Int.mul_add] at h4
 rw [h1,h2,h3,h4,h5]
 generalize valR (fun j=>t (j+16)) 15=H
 rw [Int.mul_comm H,Int.mul_comm H 38]
 omega
end Go.Proofs.YtcgkajlehdgpoaaGreatDoor
namespace Go.Proofs.YtcgkajlehdgpoaaGreatDoor
open Go.RowKit
def zI31:Array Value:=Array.replicate 31 (.int .i64 0)
theorem zI31_at (j:Nat) (h:j<31):zI31[j]? = some (.int .i64 0):=by simp [zI31,h]
theorem zeroT (w:World):Sem.run Tryz.prog (zeroValue 155) w = .ok (.agg zI31) w:=by kernel_rfl
theorem mul_bd (a b:Int) (ha:-131072≤a∧a≤131072) (hb:-131072≤b∧b≤131072):-17179869184≤a*b∧a*b≤17179869184:=by
 have h1:(a*b).natAbs≤131072*131072:=by rw [Int.natAbs_mul];exact Nat.mul_le_mul (by omega) (by omega)
 omega
set_option maxRecDepth 20000 in
set_option maxHeartbeats 4000000 in
theorem rtimes_any (L M:Nat→Int) (hL:∀ j,j<16→-131072≤L j∧L j≤131072) (hM:∀ j,j<16→-131072≤M j∧M j≤131072) (w:World) :
 Calls Tryz.prog 84 #[refV L,refV M] w fun e w'=>e = .returned (refV (carryL (carryL (foldT (tP L M 15 16) 16))))∧Below w.heap.size w w':=by
 have hz:=zeroR
 have hz2:=zeroT
 obtain ⟨W,hW⟩:∃ W,W=(((w.alloc (.cells (intsI 16 L).toArray 114)).alloc (.cells (intsI 16 M).toArray 114)).alloc (.cells zI 114)).alloc (.cells zI31 155):=⟨_,rfl⟩
 have HW:=Hid.mk' hW
 have hWs:W.heap.size=w.heap.size+1+1+1+1:=by rw [hW];simp
 have hbW:Below w.heap.size w W:=by rw [hW];exact ((((Below.refl _ _).alloc (Nat.le_refl _) _).alloc (by simp) _).alloc (by simp;omega) _).alloc (by simp;omega) _
 have hA:IRow W w.heap.size 16 L:=by rw [hW];exact (((IRow.box w 16 L _).below ((Below.refl _ _).alloc (Nat.le_refl _) _) (by simp)).below ((Below.refl _ _).alloc (Nat.le_refl _) _) (by simp;omega)).below ((Below.refl _ _).alloc (Nat.le_refl _) _) (by simp;omega)
 have hB:IRow W (w.heap.size+1) 16 M:=by
  have h1:=IRow.box (w.alloc (.cells (intsI 16 L).toArray 114)) 16 M 114
  rw [World.size_alloc] at h1
  rw [hW];exact (h1.below ((Below.refl _ _).alloc (Nat.le_refl _) _) (by simp)).below ((Below.refl _ _).alloc (Nat.le_refl _) _) (by simp only [World.size_alloc];omega)
 have hC:IRow W (w.heap.size+1+1) 16 (fun _=>0):=by
  have h1:=IRow.fresh ((w.alloc (.cells (intsI 16 L).toArray 114)).alloc (.cells (intsI 16 M).toArray 114)) zI 114 (n:=16) (L:=fun _=>0) (fun j hj=>zI_at j hj)
  rw [World.size_alloc,World.size_alloc] at h1
  rw [hW];exact h1.below ((Below.refl _ _).alloc (Nat.le_refl _) _) (by simp)
 have hT:IRow W (w.heap.size+1+1+1) 31 (tP L M 0 0):=by
  have h1:=IRow.fresh (((w.alloc (.cells (intsI 16 L).toArray 114)).alloc (.cells (intsI 16 M).toArray 114)).alloc (.cells zI 114)) zI31 155 (n:=31) (L:=fun _=>0) (fun j hj=>zI31_at j hj)
  rw [World.size_alloc,World.size_alloc,World.size_alloc] at h1
  rw [hW];exact h1
 have hbd:=tP_bd L M hL hM
 have hTb:∀ j,-4398046511104≤tP L M 15 16 j∧tP L M 15 16 j≤4398046511104:=fun j=>by have:=hbd 15 16 (by decide) (Nat.le_refl _) j;omega
 have hn15:=tP_next L M 15
 obtain ⟨T,hTe⟩:∃ T,T=tP L M 15 16:=⟨_,rfl⟩
 rw [←hTe] at hTb hn15 ⊢
 have hFb2:∀ j,j<16→-171523813933056≤foldT T 16 j∧foldT T 16 j≤171523813933056:=fun j hj=>by
  have h1:=hTb j
  have h2:=hTb (j+16)
  unfold foldT
  rw [if_pos hj]
  split <;> omega
 have hd:=carry_dig (foldT T 16) 171523813933056 (by decide) hFb2
 have c1:=fun W=>carry_any (foldT T 16) (fun j hj=>by have:=hFb2 j hj;omega) W
 have c2:=fun W=>carry_any (carryL (foldT T 16)) (fun j hj=>by have:=hd.all (by decide) j hj;omega) W
 obtain ⟨X,hX⟩:∃ X,X=foldT T 16:=⟨_,rfl⟩
 rw [←hX] at c1 c2 ⊢
 obtain ⟨Y,hY⟩:∃ Y,Y=carryL X:=⟨_,rfl⟩
 rw [←hY] at c1 c2 ⊢
 obtain ⟨Z,hZ⟩:∃ Z,Z=carryL Y:=⟨_,rfl⟩
 rw [←hZ] at c2 ⊢
 have HX:=Hid.mk' hX
 unfold refV
 clear hW hTe hX hY hZ hFb2 hd
 go_enter Tryz.func84,Tryz.ntmps84
 go_wp2
 rw [←HW.out]
 go_loopw [6] (fun i wr=>∃ k:Nat,k≤16∧i = .int .i64 k∧IRow wr (w.heap.size+1+1+1) 31 (tP L M k 0)∧IRow wr w.heap.size 16 L∧IRow wr (w.heap.size+1) 16 M∧IRow wr (w.heap.size+1+1) 16 (fun _=>0)∧Below w.heap.size w wr∧w.heap.size+1+1+1<wr.heap.size) (fun i _=>16 - (intOf i).toNat)
 case atStart=>exact ⟨0,Nat.zero_le _,rfl,hT,hA,hB,hC,hbW,by omega⟩
 case round =>
  clear hA hB hC hT hbW
  obtain ⟨p,hp,rfl,hT,hA,hB,hC,hb,hsz⟩:=hrel
  by_cases hlt:p<16
  · have hplt:(p:Int)<16:=by omega
    clear hz hz2
    go_wp2
    go_loopw [7] (fun i wq=>∃ k:Nat,k≤16∧i = .int .i64 k∧IRow wq (w.heap.size+1+1+1) 31 (tP L M p k)∧IRow wq w.heap.size 16 L∧IRow wq (w.heap.size+1) 16 M∧IRow wq (w.heap.size+1+1) 16 (fun _=>0)∧Below w.heap.size w wq∧w.heap.size+1+1+1<wq.heap.size) (fun i _=>16 - (intOf i).toNat)
    case atStart=>exact ⟨0,Nat.zero_le _,rfl,hT,hA,hB,hC,hb,hsz⟩
    case round =>
     clear hA hB hC hT hb hsz
     obtain ⟨k,hk,rfl,hT,hA,hB,hC,hb,hsz⟩:=hrel
     by_cases hlk:k<16
     · obtain ⟨ra,fa⟩:=hA p hlt
       obtain ⟨rb,fb⟩:=hB k hlk
       obtain ⟨rt,ft⟩:=hT (p+k) (by omega)
       have b1:=mul_bd _ _ (hL p hlt) (hM k hlk)
       have b2:=hbd p k hlt hk (p+k)
       have b3:-4398046511104≤tP L M p k (p+k)∧tP L M p k (p+k)≤4398046511104:=by omega
       have q1:((p:Int)+(k:Int)).toNat=p+k:=by omega
       have q2:(0:Int)≤(p:Int)+(k:Int)∧(p:Int)+(k:Int)<31:=by omega
       obtain ⟨x,hx⟩:∃ x,x=tP L M p k (p+k):=⟨_,rfl⟩
       obtain ⟨a,ha⟩:∃ a,a=L p:=⟨_,rfl⟩
       obtain ⟨b,hbb⟩:∃ b,b=M k:=⟨_,rfl⟩
       have Hx:=Hid.mk' hx
       have Ha:=Hid.mk' ha
       have Hb:=Hid.mk' hbb
       rw [←hx] at rt b3
       rw [←ha] at ra b1
       rw [←hbb] at rb b1
       clear hx ha hbb b2 hbd hL hM hn15 c1 c2 hTb
       go_wp2
       go_region
       go_wp2
       go_roundw
       case rel =>
        refine ⟨k+1,by omega,by go_num,?_,(hA.far (by show w.heap.size+1+1+1≠w.heap.size;omega) _).drew,(hB.far (by show w.heap.size+1+1+1≠w.heap.size+1;omega) _).drew,(hC.far (by show w.heap.size+1+1+1≠w.heap.size+1+1;omega) _).drew,(hb.setCell (by show w.heap.size≤w.heap.size+1+1+1;omega) _).drew,by simpa using hsz⟩
        have h1:=(hT.set (i:=p+k) (by omega) (x+a*b)).drew
        rw [tP_step,←Hx.out,←Ha.out,←Hb.out]
        exact h1
       case measure=>simp [intOf];omega
     · have hke:k=16:=by omega
       subst hke
       go_wp2
       go_roundw
       case rel=>exact ⟨p+1,by omega,by go_num,hT,hA,hB,hC,hb,hsz⟩
       case measure=>simp [intOf];omega
  · have hpe:p=16:=by omega
    subst hpe
    rw [hn15] at hT
    have hr0:IRow (wr.alloc (.cells zI 114)) wr.heap.size 16 (foldT T 0):=(IRow.fresh wr zI _ (n:=16) (L:=fun _=>0) (fun j hj=>zI_at j hj)).congr (fun j _=>by unfold foldT;rw [if_neg (Nat.not_lt_zero j)])
    have hbA:Below wr.heap.size wr (wr.alloc (.cells zI 114)):=(Below.refl _ _).alloc (Nat.le_refl _) _
    have hT0:=hT.below hbA hsz
    have hC0:=hC.below hbA (by omega)
    have hb0:Below w.heap.size w (wr.alloc (.cells zI 114)):=hb.alloc hb.size _
    have hs0:wr.heap.size<(wr.alloc (.cells zI 114)).heap.size:=by simp
    obtain ⟨N,hN⟩:∃ N,N=wr.heap.size:=⟨_,rfl⟩
    rw [←hN] at hr0 hs0
    have hNs:w.heap.size+1+1+1<N:=by omega
    have HN:=Hid.mk' hN
    clear hT hC hA hB hbA hL hM hbd hb hn15
    go_wp2
    rw [←HN.out]
    clear hN
    go_loopw [9] (fun i wq=>∃ k:Nat,k≤16∧i = .int .i64 k∧IRow wq N 16 (foldT T k)∧IRow wq (w.heap.size+1+1+1) 31 T∧IRow wq (w.heap.size+1+1) 16 (fun _=>0)∧Below w.heap.size w wq∧N<wq.heap.size) (fun i _=>16 - (intOf i).toNat)
    case atStart=>exact ⟨0,Nat.zero_le _,rfl,hr0,hT0,hC0,hb0,hs0⟩
    case round =>
     clear hr0 hT0 hC0 hb0 hs0 hz hz2
     obtain ⟨k,hk,rfl,hR,hT,hC,hb,hs⟩:=hrel
     by_cases hlk:k<16
     · obtain ⟨rr,fr⟩:=hR k hlk
       obtain ⟨rt,ft⟩:=hT k (by omega)
       have e:foldT T k k=0:=by unfold foldT;rw [if_neg (Nat.lt_irrefl _)]
       rw [e] at rr
       have b1:=hTb k
       by_cases h15:k<15
       · obtain ⟨ru,fu⟩:=hT (k+16) (by omega)
         have b2:=hTb (k+16)
         have q1:((k:Int)+16).toNat=k+16:=by omega
         have q2:(0:Int)≤(k:Int)+16∧(k:Int)+16<31:=by omega
         have hne:¬N=w.heap.size+1+1+1:=by omega
         have hne2:¬w.heap.size+1+1+1=N:=by omega
         clear hTb e c1 c2
         go_wp2
         go_region
         go_wp2
         go_roundw
         case rel =>
          refine ⟨k+1,by omega,by go_num,?_,((hT.far (by show N≠_;omega) _).far (by show N≠_;omega) _).drew,((hC.far (by show N≠_;omega) _).far (by show N≠_;omega) _).drew,((hb.setCell (by show _≤N;omega) _).setCell (by show _≤N;omega) _).drew,by simpa using hs⟩
          have h1:=((hR.set (i:=k) hlk (T k)).set (i:=k) hlk (T k+38*T (k+16))).drew
          refine h1.congr (fun j hj => ?_)
          unfold updI foldT
          by_cases e1:j=k
          · subst e1;rw [if_pos rfl,if_pos (by omega),if_pos h15]
          · rw [if_neg e1,if_neg e1]
            by_cases e2:j<k
            · rw [if_pos e2,if_pos (show j<k+1 by omega)]
            · rw [if_neg e2,if_neg (show ¬j<k+1 by omega)]
         case measure=>simp [intOf];omega
       · have hke:k=15:=by omega
         subst hke
         clear hTb e c1 c2
         go_wp2
         go_roundw
         case rel =>
          refine ⟨16,by omega,by go_num,?_,hT.far (by show N≠_;omega) _,hC.far (by show N≠_;omega) _,hb.setCell (by show _≤N;omega) _,by simpa using hs⟩
          have h1:=hR.set (i:=15) hlk (T 15)
          refine h1.congr (fun j hj => ?_)
          unfold updI foldT
          by_cases e1:j=15
          · subst e1;rw [if_pos rfl,if_pos (by omega),if_neg (by omega)]
          · rw [if_neg e1,if_pos (by omega),if_pos (by omega),if_pos (by omega)]
         case measure=>simp [intOf]
     · have hke:k=16:=by omega
       subst hke
       rw [←HX.out] at hR
       clear hTb hT
       have hi1:=infoRL X
       have hj1:=infoRL Z
       have hi2:=infoRA Z
       have ho:=oneR Z
       have c1':Calls Tryz.prog 108 #[.agg (intsI 16 X).toArray] wr fun e w'=>e = .returned (.agg (intsI 16 Y).toArray)∧Below wr.heap.size wr w':=c1 wr
       have c2':∀ W,Calls Tryz.prog 108 #[.agg (intsI 16 Y).toArray] W fun e w'=>e = .returned (.agg (intsI 16 Z).toArray)∧Below W.heap.size W w':=c2
       clear c1 c2
       go_wp2_with (first
        | (refine wpList_load_mid rfl 114 _ rfl N 0 rfl (intsI 16 X) _ hR.range Tryz.underlying114 rfl hi1 ?_)
        | (go_at_call 108;refine c1'.mono ?_;clear c1';rintro e w1 ⟨rfl,hb1⟩)
        | (go_at_call 108;refine (c2' _).mono ?_;clear c2';rintro e w2 ⟨rfl,hb2⟩;(have hb12:Below wr.heap.size wr w2:=hb1.trans (hb2.mono hb1.size));(have hC1:=hC.below hb12 (by omega));(have hth:w2.there (w.heap.size+1+1) 0 (intsI 16 Z).toArray.size:=by rw [intsI_size];exact hC1.there);(have hbw1:Below w.heap.size w w2:=hb.trans (hb12.mono hb.size)))
        | (refine wpList_store_mid rfl 114 _ _ rfl (w.heap.size+1+1) 0 (intsI 16 Z).toArray rfl rfl hth hi2 ho ?_))
       (try simp only [Exit.inBlock,Exit.then])
       refine bodyPost_ret (results_cell_mid Tryz.results84 _ _ (w.heap.size+1+1) 0 (intsI 16 Z) _ rfl (World.rangeAt_setCells_same _ _ _ _ (by rw [intsI_len];exact hC1.there)) Tryz.underlying114 rfl hj1) rfl ⟨rfl,?_⟩
       exact below_setCells (by omega) _ _ _ hbw1
end Go.Proofs.YtcgkajlehdgpoaaGreatDoor
namespace Go.Proofs.YtcgkajlehdgpoaaGreatDoor
open Go.RowKit
theorem bytL_canL (L:Nat→Int) (hL:Dig 9007199254740992 L) (j:Nat) (hj:j<32):bytL (canL L) j=byt (valR L 16%(pF:Int)).toNat j:=by
 obtain ⟨-,hn,hv⟩:=canL_nrm L hL
 have h1:valR (canL L) 16=((ofB (fun j=>if j<32 then bytL (canL L) j else 0) 32:Nat):Int):=by
  rw [←valR_from _ 16]
  refine valR_congr 16 (fun i hi => ?_)
  rw [←fromL_bytL hn i hi]
  unfold fromL
  show _=(((if 2*i<32 then bytL (canL L) (2*i) else 0:Nat):Int)+((if 2*i+1<32 then bytL (canL L) (2*i+1) else 0:Nat):Int)*256)
  rw [if_pos (show 2*i<32 by omega),if_pos (show 2*i+1<32 by omega)]
 rw [←hv,h1,Int.toNat_natCast,byt_ofB _ (fun j=>by
  show (if j<32 then bytL (canL L) j else 0)<256
  by_cases e:j<32
  · rw [if_pos e];exact bytL_lt hn j e
  · rw [if_neg e];decide) 32 j hj,if_pos hj]
theorem Dig.mono {R S:Int} {L:Nat→Int} (h:Dig R L) (hRS:R≤S):Dig S L:=⟨by have:=h.low;omega,h.dig⟩
theorem from_dig (bs:Nat→Nat) (hb:∀ j,bs j<256):Dig 65535 (fromL bs):=⟨by have:=fromL_dig bs hb 0;omega,fun j _ _=>fromL_dig bs hb j⟩
theorem rbytes (L:Nat→Int) (hL:Dig 9007199254740992 L) (n:Nat) (hn:valR L 16%(pF:Int)=((n%pF:Nat):Int)) (w:World) :
 Calls Tryz.prog 83 #[refV L] w fun e w'=>∃ v,e = .returned v∧Own w.heap.size w' v 32 (byt (n%pF))∧Below w.heap.size w w' :=
 (rbytes_any L hL w).mono fun e w' ⟨v,he,ho,hb⟩=>⟨v,he,ho.congr (fun j hj=>by rw [bytL_canL L hL j hj,hn,Int.toNat_natCast]),hb⟩
theorem nat_mod (a:Nat):((a:Int)%(pF:Int))=((a%pF:Nat):Int):=(Int.natCast_emod a pF).symm
end Go.Proofs.YtcgkajlehdgpoaaGreatDoor
namespace Go.Proofs.YtcgkajlehdgpoaaGreatDoor
open Go.RowKit
def oneL:Nat→Int:=fun j=>if j=0 then 1 else 0
def oneK (k:Nat):Nat→Int:=fun j=>if j=0∧0<k then 1 else 0
set_option maxRecDepth 20000 in
set_option maxHeartbeats 2000000 in
theorem rone_any (w:World) :
 Calls Tryz.prog 81 #[.int .i64 1] w fun e w'=>e = .returned (refV (carryL oneL))∧Below w.heap.size w w':=by
 have hz:=zeroR
 have hcar:=fun W=>carry_any oneL (fun j _=>by unfold oneL;split <;> decide) W
 obtain ⟨W,hW⟩:∃ W,W=(w.alloc (.cells zI 114)).alloc (.cells zI 114):=⟨_,rfl⟩
 have HW:=Hid.mk' hW
 have hWs:W.heap.size=w.heap.size+1+1:=by rw [hW];simp
 have hbW:Below w.heap.size w W:=by rw [hW];exact ((Below.refl _ _).alloc (Nat.le_refl _) _).alloc (by simp) _
 have hres:IRow W w.heap.size 16 (fun _=>0):=by rw [hW];exact (IRow.fresh w zI _ (fun j hj=>zI_at j hj)).below ((Below.refl _ _).alloc (Nat.le_refl _) _) (by simp)
 have hrow0:IRow W (w.heap.size+1) 16 (oneK 0):=by
  have:=IRow.fresh (w.alloc (.cells zI 114)) zI 114 (n:=16) (L:=fun _=>0) (fun j hj=>zI_at j hj)
  rw [World.size_alloc] at this
  rw [hW];exact this.congr (fun j _=>by unfold oneK;rw [if_neg (by omega)])
 obtain ⟨X,hX⟩:∃ X,X=carryL oneL:=⟨_,rfl⟩
 rw [←hX] at hcar ⊢
 unfold refV at hcar ⊢
 clear hW hX
 go_enter Tryz.func81,Tryz.ntmps81
 go_wp2
 rw [←HW.out]
 go_loopw [0,4] (fun x i wr=>∃ k:Nat,k≤3∧x = .int .i64 (if k=0 then 1 else 0)∧i = .int .i64 k∧IRow wr (w.heap.size+1) 16 (oneK k)∧IRow wr w.heap.size 16 (fun _=>0)∧Below w.heap.size w wr∧w.heap.size+1<wr.heap.size) (fun _ i _=>3 - (intOf i).toNat)
 case atStart=>exact ⟨0,Nat.zero_le _,rfl,rfl,hrow0,hres,hbW,by omega⟩
 case round =>
  clear hrow0 hres hbW hz
  obtain ⟨k,hk,rfl,rfl,hrow,hre,hb,hs⟩:=hrel
  have hsim:∀ (k:Nat) (v:Int) (wr:World),k<3→IRow wr (w.heap.size+1) 16 (oneK k)→v=(if k=0 then 1 else 0)→IRow (wr.setCell ⟨w.heap.size+1,k,none⟩ (.int .i64 v)) (w.heap.size+1) 16 (oneK (k+1)):=fun k v wr hk h hv=>(h.set (i:=k) (by omega) v).congr (fun j hj=>by
   unfold updI oneK
   by_cases e:j=k
   · rw [if_pos e,hv]
     by_cases e0:k=0
     · rw [if_pos e0,if_pos ⟨by omega,by omega⟩]
     · rw [if_neg e0,if_neg (by omega)]
   · rw [if_neg e]
     by_cases e1:j=0∧0<k
     · rw [if_pos e1,if_pos ⟨e1.1,by omega⟩]
     · rw [if_neg e1,if_neg (by omega)])
  by_cases hlt:k<3
  · obtain ⟨rk,fk⟩:=hrow k (by omega)
    have h3:k=0∨k=1∨k=2:=by omega
    rcases h3 with rfl | rfl | rfl
    all_goals
     clear hcar
     go_wp2
     go_roundw
     case rel=>exact ⟨_,by decide,rfl,by go_num,hsim _ _ wr (by decide) hrow (by decide),hre.far (by show w.heap.size+1≠w.heap.size;omega) _,hb.setCell (by show _≤w.heap.size+1;omega) _,by simpa using hs⟩
     case measure=>simp [intOf]
  · have hke:k=3:=by omega
    subst hke
    have hrow2:IRow wr (w.heap.size+1) 16 oneL:=hrow.congr (fun j hj=>by
     unfold oneK oneL
     by_cases e:j=0
     · rw [if_pos ⟨e,by decide⟩,if_pos e]
     · rw [if_neg (by omega),if_neg e])
    obtain ⟨rk,fk⟩:=hrow2 3 (by decide)
    have rk0:wr.cell? ⟨w.heap.size+1,3,none⟩=some (.int .i64 0):=rk
    have hst:IRow (wr.setCell ⟨w.heap.size+1,3,none⟩ (.int .i64 0)) (w.heap.size+1) 16 oneL:=(hrow2.set (i:=3) (by decide) 0).congr (fun j hj=>by
     unfold updI oneL
     by_cases e:j=3
     · rw [if_pos e,if_neg (by omega)]
     · rw [if_neg e])
    have hre2:IRow (wr.setCell ⟨w.heap.size+1,3,none⟩ (.int .i64 0)) w.heap.size 16 (fun _=>0):=hre.far (by show w.heap.size+1≠w.heap.size;omega) _
    have hb2:Below w.heap.size w (wr.setCell ⟨w.heap.size+1,3,none⟩ (.int .i64 0)):=hb.setCell (by show _≤w.heap.size+1;omega) _
    have hs2:w.heap.size+1<(wr.setCell ⟨w.heap.size+1,3,none⟩ (.int .i64 0)).heap.size:=by simpa using hs
    obtain ⟨V,hV⟩:∃ V,V=wr.setCell ⟨w.heap.size+1,3,none⟩ (.int .i64 0):=⟨_,rfl⟩
    have HV:=Hid.mk' hV
    rw [←hV] at hst hre2 hb2 hs2
    have hcr:=hcar V
    have hi1:=infoRL oneL
    have hj1:=infoRL X
    have hi2:=infoRA X
    have ho:=oneR X
    have hstr:=hst.range
    clear hV hcar rk hrow hrow2 hsim hre hb
    go_wp2_with (first
     | (rw [←HV.out];refine wpList_load_mid rfl 114 _ rfl (w.heap.size+1) 0 rfl (intsI 16 oneL) _ hstr Tryz.underlying114 rfl hi1 ?_)
     | (go_at_call 108;refine hcr.mono ?_;clear hcr;rintro e w1 ⟨rfl,hb1⟩;(have hC1:=hre2.below hb1 (by omega));(have hth:w1.there w.heap.size 0 (intsI 16 X).toArray.size:=by rw [intsI_size];exact hC1.there);(have hbw1:Below w.heap.size w w1:=hb2.trans (hb1.mono hb2.size)))
     | (refine wpList_store_mid rfl 114 _ _ rfl w.heap.size 0 (intsI 16 X).toArray rfl rfl hth hi2 ho ?_))
    (try simp only [Exit.inBlock,Exit.then])
    refine bodyPost_ret (results_cell_mid Tryz.results81 _ _ w.heap.size 0 (intsI 16 X) _ rfl (World.rangeAt_setCells_same _ _ _ _ (by rw [intsI_len];exact hC1.there)) Tryz.underlying114 rfl hj1) rfl ⟨rfl,?_⟩
    exact below_setCells (Nat.le_refl _) _ _ _ hbw1
end Go.Proofs.YtcgkajlehdgpoaaGreatDoor
